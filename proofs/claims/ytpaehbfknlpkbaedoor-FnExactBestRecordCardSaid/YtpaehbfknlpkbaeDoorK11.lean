/- Texts of this seat, in their order, put together by program. -/
import Derived.Test.YtpaehbfknlpkbaeDoorK10
set_option linter.unusedSimpArgs false
set_option linter.unusedVariables false
set_option linter.unusedSectionVars false
/- The program's chapter 3: MoveOk, Played, WinnerOf, WinningCells and LinePlayed compute what the model's do. -/
set_option maxRecDepth 20000
namespace Go.Proofs.YtpaehbfknlpkbaeDoor
open Go Go.Ip G

variable (g : Nat → PV) (lf n : Nat)

/-! ### moves -/
/-! ### who wins -/
theorem who_zero {R C : Nat} {xs : List Int} (hb : posB (R : Int) (C : Int) xs = true) : whoN R C (setL xs 1) (setL xs 2) = 0 ↔ joinsL (R : Int) (C : Int) xs 1 = false ∧ joinsL (R : Int) (C : Int) xs 2 = false := by
  rw [joins_one hb, joins_two hb]
  unfold whoN
  cases joinsN R C 1 (setL xs 1) <;> cases joinsN R C 2 (setL xs 2) <;> simp

/-- The winning cells, out of the set that the search finds. -/
theorem winCells_list {R C T S : Nat} {xs : List Int} (hb : posB (R : Int) (C : Int) xs = true) (hS : Sides (R : Int) (C : Int) R C xs) (hT : T = 1 ∨ T = 2)
    (hSb : ∀ k, S.testBit k = true ↔ whoN R C (setL xs 1) (setL xs 2) = 0 ∧ (setL xs 0).testBit k = true ∧ winN R C (putA T k (setL xs 1)) (putB T k (setL xs 2)) (3 - T) = T) :
    winCellsL (R : Int) (C : Int) xs (T : Int) = listN S := by
  have hx9 : xs.length ≤ 9 := by have := hS.2.2.2.2.2.2.2.1; have := hS.2.2.2.2.2.2.1; omega
  have hT' : 3 - T = 1 ∨ 3 - T = 2 := by omega
  have e3 : (3 : Int) - (T : Int) = ((3 - T : Nat) : Int) := by omega
  rw [listN_filter]
  unfold winCellsL
  congr 1
  have h9 : List.range 9 = List.range xs.length ++ (List.range' xs.length (9 - xs.length)) := by
    rw [List.range_eq_range', List.range_eq_range', show 9 = xs.length + (9 - xs.length) by omega, ← List.range'_append_1]; simp
  rw [h9, List.filter_append]
  have hnil : (List.range' xs.length (9 - xs.length)).filter (fun k => S.testBit k) = [] := by
    rw [List.filter_eq_nil_iff]
    intro k hk
    rw [List.mem_range'_1] at hk
    intro h
    have := ((hSb k).1 h).2.1
    have := set_in hS this
    have := hS.2.2.2.2.2.2.2.1
    omega
  rw [hnil, List.append_nil]
  apply List.filter_congr
  intro k hk
  rw [Bool.eq_iff_iff, winsB_iff, moveL_iff, hSb, who_zero hb, setL_bit]
  constructor
  · rintro ⟨⟨_, _, h3, h4, h5⟩, h6⟩
    rw [e3, winL_set hb hT hT' h3] at h6
    exact ⟨⟨h4, h5⟩, h3, by omega⟩
  · rintro ⟨⟨h4, h5⟩, h3, h6⟩
    refine ⟨⟨hb, playerB_of hT, h3, h4, h5⟩, ?_⟩
    rw [e3, winL_set hb hT hT' h3]; omega

/-! ### a line -/
theorem listN_head {S : Nat} (hS : S < 2 ^ 9) (h0 : S ≠ 0) (d : Int) : (listN S).headD d = (lowN S : Int) := by
  have hl := (low_ok hS h0).1
  have h9 := (low_ok hS h0).2.1
  rw [listN_filter]
  unfold lowN at *
  cases hf : (List.range 9).find? fun k => S.testBit k with
  | none =>
    rw [hf] at hl h9
    exact absurd h9 (by decide)
  | some k =>
    have : ((List.range 9).filter fun k => S.testBit k).head? = some k := by rw [List.head?_filter, hf]
    cases hq : (List.range 9).filter fun k => S.testBit k with
    | nil => rw [hq] at this; cases this
    | cons a l =>
      rw [hq] at this
      cases this
      rfl

/-- A list of integers at an object of its own. -/
def SlAt (i : Nat) (h : PHeap) (p : PV) (ys : List Int) : Prop := (p = .nilsl ∧ ys = []) ∨ (p = .sl i 0 ys.length ∧ At h i (ys.map (.int .i64)))
theorem SlAt.keep {i : Nat} {h h' : PHeap} {p : PV} {ys : List Int} (s : SlAt i h p ys) (k : Keep h.length h h') : SlAt i h' p ys := by
  rcases s with s | ⟨a, b⟩
  · exact .inl s
  · exact .inr ⟨a, b.keep k⟩
theorem SlAt.kb {i m : Nat} {h h' : PHeap} {p : PV} {ys : List Int} (s : SlAt i h p ys) (k : KB m h h') (hn : i ≠ m) : SlAt i h' p ys := by
  rcases s with s | ⟨a, b⟩
  · exact .inl s
  · exact .inr ⟨a, b.kb k hn⟩
theorem SlAt.own {i n : Nat} {h : PHeap} {p : PV} {ys : List Int} (s : SlAt i h p ys) (hn : n ≤ i) : OwnSl n h p ys := by
  rcases s with s | ⟨a, b⟩
  · exact .inl s
  · exact .inr ⟨i, hn, a, b⟩
theorem wapS {Q : PV → PHeap → Prop} {i : Nat} {h : PHeap} {p : PV} {ys : List Int} (s : SlAt i h p ys) {x : Int} (hl : ys.length + 1 ≤ 2 ^ 36) {F : PV × PHeap → Res}
    (hf : ∀ p' h' j, SlAt j h' p' (ys ++ [x]) → KB i h h' → h.length ≤ j → W (F (p', h')) Q) :
    W ((buildSliceP Tryd.prog 22 1 [(0, .int .i64 x)] h).bind fun v => (appendP Tryd.prog 22 22 p v.1 v.2).bind F) Q := by
  have hb : buildSliceP Tryd.prog 22 1 [(0, .int .i64 x)] h = some (.sl h.length 0 1, h ++ [.own 1 [.int .i64 x]]) := by
    simp [buildSliceP, tyElem, tySize, tyZero, repeatCells, fillP, PV.cells, setCells]
  have hsrc : srcP (h ++ [.own 1 [.int .i64 x]]) 1 (.sl h.length 0 1) = some (1, [.int .i64 x]) := by
    simp [srcP, cellsAt, PObj.get]
  refine wbd hb ?_
  rcases s with ⟨rfl, rfl⟩ | ⟨rfl, h3⟩
  · refine wbd (v := (.sl (h.length + 1) 0 1, h ++ [.own 1 [.int .i64 x]] ++ [.own 1 [.int .i64 x]])) (by simp [appendP, tyElem, tySize, tySmall, hsrc]) ?_
    refine hf _ _ (h.length + 1) (.inr ⟨rfl, ?_⟩) ?_ (by omega)
    · unfold At; rw [List.getElem?_append_right (by simp)]; simp
    · rw [List.append_assoc]; exact (Keep.append _ _ _ (Nat.le_refl _)).kb
  · have hid := h3.lt
    have h3' : (h ++ [PObj.own 1 [.int .i64 x]])[i]? = some (.own 1 (ys.map (.int .i64))) := by rw [List.getElem?_append_left hid]; exact h3
    refine wbd (v := (.sl (h.length + 1) 0 (ys.length + 1), ((h ++ [PObj.own 1 [.int .i64 x]]).set i .dead ++ [PObj.own 1 (ys.map (.int .i64) ++ [.int .i64 x])]))) (by simp [appendP, tyElem, tySize, tySmall, hsrc, h3', hl]) ?_
    refine hf _ _ (h.length + 1) (.inr ⟨by simp, ?_⟩) ?_ (by omega)
    · unfold At; rw [List.getElem?_append_right (by simp)]; simp
    · refine ⟨by simp; omega, fun j hj hne => ?_⟩
      rw [List.getElem?_append_left (by simp; omega), List.getElem?_set_ne (by omega), List.getElem?_append_left hj]
theorem Sch.kbo {R C s m i : Nat} {h h' : PHeap} (hs : Sch R C h s m) (k : KB i h h') (h1 : s ≠ i) (h2 : m ≠ i) : Sch R C h' s m := by
  obtain ⟨a, es, b, c⟩ := hs; exact ⟨a.kb k h1, es, b.kb k h2, c⟩
theorem wresSl {Q : PV → PHeap → Prop} {i : Nat} {h : PHeap} {p : PV} {ys : List Int} (s : SlAt i h p ys) {f : PV → Res} (hf : W (f p) Q) : W ((resV p).bind f) Q := wbd (s.own (Nat.le_refl i)).res hf

theorem goB_who {R C : Nat} {xs : List Int} (hb : posB (R : Int) (C : Int) xs = true) : goB (R : Int) (C : Int) xs = (!decide (setL xs 0 = 0) && decide (whoN R C (setL xs 1) (setL xs 2) = 0)) := by
  have hw := who_zero (R := R) (C := C) hb
  unfold goB
  rw [Bool.and_assoc]
  congr 1
  rw [Bool.eq_iff_iff, decide_eq_true_iff, hw]
  simp

set_option maxHeartbeats 2000000 in
theorem lineOk (hbig : Big g) (hlf : 1000 < lf) : LineOk g lf := by
  intro N hN r c t xs p h ht hp hl hf
  obtain ⟨n, rfl⟩ : ∃ n, N = n + 1 := ⟨N - 1, by omega⟩
  have hpos := positionOk_N g lf n (by omega) r c hp (by omega) hf
  have hplay := playerOk_W g lf n (by omega) h t
  suffices this : W (CL g lf (n + 1) fn_impl_LinePlayed [.int .i64 r, .int .i64 c, p, .int .i64 t] h) fun q h' => OwnSl h.length h' q (lineL r c xs t) ∧ Keep h.length h h' by
    obtain ⟨q, h', e, o, k⟩ := this
    exact ⟨q, h', e, o, k⟩
  rw [impl_LinePlayed.call_eq]
  unfold impl_LinePlayed.main
  simp only [env_C, env_lf, env_pick, env_alloc, env_store, env_un]
  cases hb : posB r c xs with
  | false =>
    rw [hb] at hpos
    rw [lineL_none (.inl hb)]
    repeat (first | with_reducible refine wT ?_ | with_reducible refine wg0 rfl ?_ | with_reducible refine wpT ?_ | with_reducible refine wnF ?_ | with_reducible refine wsm ?_ | with_reducible refine wrN ?_ | with_reducible refine wbd (by assumption) ?_ | dsimp only)
    exact W.ret ⟨OwnSl.nil _ _, Keep.refl _ _⟩
  | true =>
    rw [hb] at hpos
    cases hpl : playerB t with
    | false =>
      rw [hpl] at hplay
      have : lineL r c xs t = [] := by unfold lineL; rw [hpl, Bool.and_false]; rfl
      rw [this]
      repeat (first | with_reducible refine wT ?_ | with_reducible refine wg1 rfl ?_ | with_reducible refine wpF ?_ | with_reducible refine wnT ?_ | with_reducible refine wnF ?_ | with_reducible refine wpv ?_ | with_reducible refine wsm ?_ | with_reducible refine wrN ?_ | with_reducible refine wbd (by assumption) ?_ | dsimp only)
      exact W.ret ⟨OwnSl.nil _ _, Keep.refl _ _⟩
    | true =>
      rw [hpl] at hplay
      obtain ⟨R, C, hS⟩ := sides_of hb
      obtain ⟨T, rfl, hT⟩ := player_of hpl
      have hB := board_of_sides hS
      obtain ⟨rfl, rfl, _, _, _, _, h9, hlen, _⟩ := id hS
      repeat (first | with_reducible refine wF ?_ | with_reducible refine wg1 rfl ?_ | with_reducible refine wpF ?_ | with_reducible refine wnT ?_ | with_reducible refine wpv ?_ | with_reducible refine wsm ?_ | with_reducible refine wbd (by assumption) ?_ | dsimp only)
      refine wcall (newSearch_W g lf hB n (by omega) hlf ht.1) fun v h1 ⟨s, m, hv, hs, k1, l1, l2⟩ => ?_
      subst hv
      repeat (first | dsimp only)
      refine wcall (standingOf_W g lf (hp.keep k1) (by omega) T n (by omega) hlf) fun v h2 ⟨hv, k2⟩ => ?_
      subst hv
      have hs2 := hs.keep k2
      have kk2 := k1.trans (k2.mono k1.1)
      repeat (first | dsimp only)
      refine walS fun h3 id o3 k3 l3 => ?_
      dsimp only at k3 l3 ⊢
      refine wstS o3 fun h4 o4 k4 => ?_
      have hs3 := hs2.keep k3
      have hsid : s ≠ id := by have := hs2.1.lt; omega
      have hmid : m ≠ id := by have := hs2.lt; omega
      have hs4 := hs3.kbo k4 hsid hmid
      have lid : h.length ≤ id := Nat.le_trans kk2.1 l3
      have kk4 := (kk2.trans (k3.mono kk2.1)).kbs (Nat.le_refl _) k4 lid
      have hline : lineL (R : Int) (C : Int) xs (T : Int) = lineF (R : Int) (C : Int) xs.length xs (T : Int) := by unfold lineL; rw [hb, hpl]; rfl
      have hpop : pop (setL xs 0) ≤ xs.length := by rw [hlen]; exact pop_le h9 (set_lt hS 0)
      have hx9 : xs.length ≤ 9 := by omega
      skip
      refine loopW (fun m' st => ∃ (zs ys : List Int) (U : Nat) (q : PV) (i id : Nat) (h5 : PHeap), st = impl_LinePlayed.st0 (.ptr s 0) q (.ptr id 0) h5 ∧ posB (R : Int) (C : Int) zs = true ∧ Sides (R : Int) (C : Int) R C zs ∧ (U = 1 ∨ U = 2) ∧
        At h5 id (stC (setL zs 0) (setL zs 1) (setL zs 2) U) ∧ Sch R C h5 s m ∧ SlAt i h5 q ys ∧ i ≠ id ∧ i ≠ s ∧ i ≠ m ∧ h.length ≤ i ∧ s ≠ id ∧ m ≠ id ∧ h.length ≤ id ∧ pop (setL zs 0) ≤ m' ∧ ys.length + m' ≤ 9 ∧ ys ++ lineF (R : Int) (C : Int) m' zs (U : Int) = lineL (R : Int) (C : Int) xs (T : Int) ∧ Keep h.length h h5) ?_ lf xs.length _ (by omega)
        ⟨xs, [], T, .nilsl, h4.length, id, h4, rfl, hb, hS, hT, o4, hs4, .inl ⟨rfl, rfl⟩, by have := o4.lt; omega, by have := hs4.1.lt; omega, by have := hs4.lt; omega, kk4.1, hsid, hmid, lid, hpop, by simpa using hx9, by rw [hline]; rfl, kk4⟩
      clear hS hT hline hpop hb hpos hplay
      rintro n1 m1 st ⟨zs, ys, U, q, i, id, h5, rfl, hb, hS, hU, o5, hs5, sl5, i1, i2, i3, i4, d1, d2, d3, hpop, hyl, hfl, k5⟩ next
      have ht5 := ht.2.keep k5
      have hf9 := set_lt9 hS 0
      have ha9 := set_lt9 hS 1
      have hb9 := set_lt9 hS 2
      have hst := stands_of hS hU
      have hgo := goB_who hb
      rw [impl_LinePlayed.body0_eq]
      unfold impl_LinePlayed.body0
      simp only [env_C, env_pick, env_alloc, env_buildSlice, env_load, env_store, env_bin, env_fieldAddr, env_indexAddr, env_append]
      have hstop : goB (R : Int) (C : Int) zs = false → ys = lineL (R : Int) (C : Int) xs (T : Int) := fun hg => by
        rw [← hfl]
        cases m1 with
        | zero => rw [lineF, List.append_nil]
        | succ m1 => rw [lineF, hg, if_neg (by decide), List.append_nil]
      by_cases e0 : setL zs 0 = 0
      · have hg : goB (R : Int) (C : Int) zs = false := by rw [hgo, decide_eq_true e0]; rfl
        have hys := hstop hg
        repeat (first | with_reducible refine wF ?_ | with_reducible refine wg0 rfl ?_ | with_reducible refine wpF ?_ | with_reducible refine wsm ?_ | (with_reducible refine wbd (fSt0 _) ?_) | (with_reducible refine wia30 ?_) | (with_reducible refine wbd (ld1 (by assumption) rfl) ?_) | (with_reducible refine wresSl sl5 ?_) | with_reducible refine wneqF (by omega) ?_ | rw [kLoop_exit] | rw [impl_LinePlayed.after0_se0_9_10_11_39] | dsimp only)
        exact W.ret ⟨hys ▸ sl5.own i4, k5⟩
      · obtain ⟨h6, e6, k6⟩ := joined_W g lf (f := setL zs 0) (t := U) hB (pos_sets hS) hbig hs5.1 ht5 n (by omega) hlf
        have o6 := o5.keep k6
        have hs6 := hs5.keep k6
        have sl6 := sl5.keep k6
        have kk6 := k5.trans (k6.mono k5.1)
        have ht6 := ht5.keep k6
        obtain ⟨w1, w2, w3⟩ := who_win (t := U) hB (pos_sets hS)
        repeat (first | with_reducible refine wg1 rfl ?_ | with_reducible refine wpv ?_ | with_reducible refine wsm ?_ | with_reducible refine wbd (by assumption) ?_ | (with_reducible refine wbd (fSt0 _) ?_) | (with_reducible refine wia30 ?_) | (with_reducible refine wbd (ld1 (by assumption) rfl) ?_) | (with_reducible refine wbd (ldS (by assumption)) ?_) | with_reducible refine wneqT (by omega) ?_ | dsimp only)
        refine weql (fun ew => ?_) (fun ew => ?_)
        · have hw0 : whoN R C (setL zs 1) (setL zs 2) = 0 := by omega
          have hg : goB (R : Int) (C : Int) zs = true := by rw [hgo, decide_eq_false e0, decide_eq_true hw0]; rfl
          repeat (first | with_reducible refine wT ?_ | with_reducible refine wpT ?_ | (with_reducible refine wbd (ldS (by assumption)) ?_))
          refine wcall (sWinning_W g lf hB hbig hlf hst n (by omega) hs6 ht6) fun v h7 ⟨S, hv, hS9, hSb, hs7, k7⟩ => ?_
          subst hv
          have o7 := o6.kb k7 (hs6.ne o6)
          have sl7 := sl6.kb k7 i3
          have kk7 := kk6.kbs (Nat.le_refl _) k7 l2
          have ht7 := ht.2.keep kk7
          have hwl := winCells_list hb hS hU hSb
          -- one step, to a cell that is known
          have step : ∀ k : Nat, k < 9 → (setL zs 0).testBit k = true → stepL (R : Int) (C : Int) zs (U : Int) = (k : Int) → ∀ F : PV → PV → PHeap → Res,
              (∀ (p' : PV) (h10 : PHeap) (j id' : Nat), At h10 id' (stC (setL (zs.set k (U : Int)) 0) (setL (zs.set k (U : Int)) 1) (setL (zs.set k (U : Int)) 2) (3 - U)) → Sch R C h10 s m → SlAt j h10 p' (ys ++ [(k : Int)]) → j ≠ id' → j ≠ s → j ≠ m → h.length ≤ j → s ≠ id' → m ≠ id' → h.length ≤ id' → Keep h.length h h10 → W (F p' (.ptr id' 0) h10) fun q h' => OwnSl h.length h' q (lineL (R : Int) (C : Int) xs (T : Int)) ∧ Keep h.length h h') →
              W ((buildSliceP Tryd.prog 22 1 [(0, .int .i64 (k : Int))] h7).bind fun v1 => (appendP Tryd.prog 22 22 q v1.1 v1.2).bind fun v2 =>
                (loadP Tryd.prog 38 (.ptr id 0) v2.2).bind fun v3 => (CL g lf n fn_impl_standing_after [v3, .int .i64 (k : Int)] v2.2).bind fun v4 =>
                (storeP Tryd.prog 38 (.ptr id 0) v4.1 v4.2).bind fun v5 => (loadP Tryd.prog 38 (.ptr id 0) v5).bind fun v6 =>
                (allocP Tryd.prog 38 v5).bind fun v7 => (storeP Tryd.prog 38 v7.1 v6 v7.2).bind fun v8 => F v2.1 v7.1 v8) fun q h' => OwnSl h.length h' q (lineL (R : Int) (C : Int) xs (T : Int)) ∧ Keep h.length h h' := by
            intro k hk9 hkf hstep F hF
            have hk0 := setL_bit.1 hkf
            obtain ⟨q1, q2⟩ := set_putA hU hk0
            have q0 := (set_more hS hU hk0).2.1
            refine wapS sl7 (by omega) fun p' h8 j sl8 k8 lj => ?_
            have o8 := o7.kb k8 (Ne.symm i1)
            have hs8 := hs7.kbo k8 (Ne.symm i2) (Ne.symm i3)
            have kk8 := kk7.kbs (Nat.le_refl _) k8 i4
            refine wbd (ldS o8) ?_
            refine wcall (after_W g lf hf9 ha9 hb9 hk9 hU n (by omega) h8) fun v h9 ⟨hv, k9⟩ => ?_
            subst hv
            have o9 := o8.keep k9
            refine wstS o9 fun h10 o10 k10 => ?_
            refine wbd (ldS o10) ?_
            have hjid : j ≠ id := by have := o7.lt; omega
            have sl10 := (sl8.keep k9).kb k10 hjid
            have hs10 := (hs8.keep k9).kbo k10 d1 d2
            have kk10 := (kk8.trans (k9.mono kk8.1)).kbs (Nat.le_refl _) k10 d3
            refine walS fun h11 id' o11 k11 l11 => ?_
            refine wstS o11 fun h12 o12 k12 => ?_
            have hs11 := hs10.keep k11
            have z1 : s ≠ id' := by have := hs10.1.lt; omega
            have z2 : m ≠ id' := by have := hs10.lt; omega
            have z3 : j ≠ id' := by
              have hlen8 : j < h8.length := by
                rcases sl8 with ⟨_, b⟩ | ⟨_, b⟩
                · simp at b
                · exact b.lt
              have := k9.1; have := k10.1; omega
            have z4 : h.length ≤ id' := Nat.le_trans kk10.1 l11
            rw [← q0, ← q1, ← q2] at o12
            exact hF p' h12 j id' o12 (hs11.kbo k12 z1 z2) ((sl10.keep k11).kb k12 z3) z3 (by have := hs7.1.lt; omega) (by have := hs7.lt; omega) (Nat.le_trans kk7.1 lj) z1 z2 z4 ((kk10.trans (k11.mono kk10.1)).kbs (Nat.le_refl _) k12 z4)
          -- and what comes of it
          have fin : ∀ k : Nat, k < 9 → (setL zs 0).testBit k = true → stepL (R : Int) (C : Int) zs (U : Int) = (k : Int) →
              ∀ (p' : PV) (h10 : PHeap) (j id' : Nat), At h10 id' (stC (setL (zs.set k (U : Int)) 0) (setL (zs.set k (U : Int)) 1) (setL (zs.set k (U : Int)) 2) (3 - U)) → Sch R C h10 s m → SlAt j h10 p' (ys ++ [(k : Int)]) → j ≠ id' → j ≠ s → j ≠ m → h.length ≤ j → s ≠ id' → m ≠ id' → h.length ≤ id' → Keep h.length h h10 →
              W (kLoop (ev (Env.cx (env g lf n) Tryd.prog impl_LinePlayed.kl) impl_LinePlayed.lp0) n1 (impl_LinePlayed.K0 (env g lf n) (kTop Tryd.prog Tryd.f12)) .normal (impl_LinePlayed.st0 (.ptr s 0) p' (.ptr id' 0) h10)) fun q h' => OwnSl h.length h' q (lineL (R : Int) (C : Int) xs (T : Int)) ∧ Keep h.length h h' := by
            intro k hk9 hkf hstep p' h10 j id' o10 hs10 sl10 z1 z2 z3 z4 z5 z6 z7 kk10
            have hk0 := setL_bit.1 hkf
            have q0 := (set_more hS hU hk0).2.1
            have hpw := pop_without hf9 hkf
            cases m1 with
            | zero => omega
            | succ m1 =>
              have e3 : (3 : Int) - (U : Int) = ((3 - U : Nat) : Int) := by omega
              have hfl' := hfl
              rw [lineF, hg, if_pos rfl, hstep, e3] at hfl'
              refine next m1 _ (Nat.lt_succ_self m1) ⟨zs.set k (U : Int), ys ++ [(k : Int)], 3 - U, p', j, id', h10, rfl, pos_set hb hU k, sides_set hb hS hU, by omega, o10, hs10, sl10, z1, z2, z3, z4, z5, z6, z7, by rw [q0]; omega, by simp; omega, ?_, kk10⟩
              rw [List.append_assoc]; exact hfl'
          repeat (first | dsimp only)
          refine weql (fun es => ?_) (fun es => ?_)
          · have hS0 : S = 0 := by omega
            have hst0 : stepL (R : Int) (C : Int) zs (U : Int) = (lowN (setL zs 0) : Int) := by
              unfold stepL; rw [hwl, hS0, show listN 0 = [] from rfl]
              exact listN_head hf9 e0 0
            have el := leastIn_W g lf hf9 e0 hbig ht7 n (by omega)
            obtain ⟨c1, c2, c3, c4⟩ := low_ok hf9 e0
            repeat (first | with_reducible refine wT ?_ | with_reducible refine wbd (by assumption) ?_ | (with_reducible refine wbd (fSt0 _) ?_) | (with_reducible refine wia30 ?_) | (with_reducible refine wbd (ld1 (by assumption) rfl) ?_) | dsimp only)
            exact step _ c2 c1 hst0 (fun x y hh => kLoop (ev (Env.cx (env g lf n) Tryd.prog impl_LinePlayed.kl) impl_LinePlayed.lp0) n1 (impl_LinePlayed.K0 (env g lf n) (kTop Tryd.prog Tryd.f12)) .normal (impl_LinePlayed.st0 (.ptr s 0) x y hh)) (fin _ c2 c1 hst0)
          · have hS0 : S ≠ 0 := by omega
            have hst0 : stepL (R : Int) (C : Int) zs (U : Int) = (lowN S : Int) := by
              unfold stepL; rw [hwl]
              exact listN_head hS9 hS0 _
            have el := leastIn_W g lf hS9 hS0 hbig ht7 n (by omega)
            obtain ⟨c1, c2, c3, c4⟩ := low_ok hS9 hS0
            have c1' := ((hSb _).1 c1).2.1
            repeat (first | with_reducible refine wF ?_ | with_reducible refine wbd (by assumption) ?_ | dsimp only)
            exact step _ c2 c1' hst0 (fun x y hh => kLoop (ev (Env.cx (env g lf n) Tryd.prog impl_LinePlayed.kl) impl_LinePlayed.lp0) n1 (impl_LinePlayed.K0 (env g lf n) (kTop Tryd.prog Tryd.f12)) .normal (impl_LinePlayed.st0 (.ptr s 0) x y hh)) (fin _ c2 c1' hst0)
        · have hw0 : ¬ whoN R C (setL zs 1) (setL zs 2) = 0 := by omega
          have hg : goB (R : Int) (C : Int) zs = false := by rw [hgo, decide_eq_false hw0, Bool.and_false]
          have hys := hstop hg
          repeat (first | with_reducible refine wF ?_ | with_reducible refine wpT ?_ | (with_reducible refine wresSl sl6 ?_) | rw [kLoop_exit] | rw [impl_LinePlayed.after0_se0_9_10_11_39])
          exact W.ret ⟨hys ▸ sl6.own i4, kk6⟩

end Go.Proofs.YtpaehbfknlpkbaeDoor

/- The program's chapter 4: PairCell and PairFilled compute what the model's do, and boards that are free or wider. -/
set_option maxRecDepth 20000
namespace Go.Proofs.YtpaehbfknlpkbaeDoor
open Go Go.Ip G

/-! ### a number's lowest bit -/
section
variable {Q : PV → PHeap → Prop} {x : Nat} {f : PV → Res}
end

variable (g : Nat → PV) (lf n : Nat)

/-! ### boards that are free, and boards that are wider -/
theorem freeBoard_W (N : Nat) (hN : 3 ≤ N) (h : PHeap) (r c : Int) :
    ∃ q h', CL g lf N fn_impl_freeBoard [.int .i64 r, .int .i64 c] h = some (q, h') ∧ OwnSl h.length h' q (if boardB r c = true then freeL r.toNat c.toNat else []) ∧ Keep h.length h h' := by
  obtain ⟨n, rfl⟩ : ∃ n, N = n + 1 := ⟨N - 1, by omega⟩
  have e1 := boardOk_N g lf n (by omega) h r c
  suffices this : W (CL g lf (n + 1) fn_impl_freeBoard [.int .i64 r, .int .i64 c] h) fun q h' => OwnSl h.length h' q (if boardB r c = true then freeL r.toNat c.toNat else []) ∧ Keep h.length h h' by
    obtain ⟨q, h', e, o, k⟩ := this
    exact ⟨q, h', e, o, k⟩
  rw [impl_freeBoard.call_eq]
  unfold impl_freeBoard.main
  simp only [env_C, env_bin, env_un, env_make]
  cases hb : boardB r c with
  | false =>
    rw [hb] at e1
    repeat (first | with_reducible refine wT ?_ | with_reducible refine wnF ?_ | with_reducible refine wrN ?_ | with_reducible refine wbd (by assumption) ?_ | dsimp only)
    exact W.ret ⟨OwnSl.nil _ _, Keep.refl _ _⟩
  | true =>
    rw [hb] at e1
    obtain ⟨R, C, rfl, rfl, hB⟩ := boardB_of hb
    obtain ⟨h1, h2, h3, h4, h9⟩ := id hB
    repeat (first | with_reducible refine wF ?_ | with_reducible refine wnT ?_ | with_reducible refine wbd (by assumption) ?_ | (refine wmake (by omega) fun q h1 o1 k1 => ?_) | with_reducible refine wmulN (by omega) ?_ | with_reducible refine wresO (by assumption) ?_ | dsimp only | simp only [env_C, env_Y, env_g, env_lf, env_pick, env_alloc, env_box, env_build, env_buildSlice, env_load, env_store, env_ptr, env_bin, env_un, env_conv, env_make, env_slice, env_fieldAddr, env_field, env_indexAddr, env_index, env_extract, env_len, env_append, env_max, env_min, env_makeMap, env_lookup, env_update, env_clos, env_bstr, env_ext])
    exact W.ret ⟨o1, k1⟩

/-! ### partners -/
/-! ### pairs that are shared -/
end Go.Proofs.YtpaehbfknlpkbaeDoor

/- What the program's functions of chapter 11 compute: names of cells, records, their ends and texts. -/
set_option maxRecDepth 20000
namespace Go.Proofs.YtpaehbfknlpkbaeDoor
open Go Go.Ip G

/-! ### small numbers as texts -/
variable (g : Nat → PV) (lf n : Nat)

/-! ### names of cells -/
/-! ### the end of a record -/
/-! ### texts of records -/
end Go.Proofs.YtpaehbfknlpkbaeDoor

/- What the program's functions of chapter 11 compute, on: slips, and the best record. -/
set_option maxRecDepth 20000
namespace Go.Proofs.YtpaehbfknlpkbaeDoor
open Go Go.Ip G

/-- A list that grows, in an object that is none of some others. -/
def LsAt (b : Nat) (ex : List Nat) (h : PHeap) (q : PV) (ys : List Int) : Prop := (q = .nilsl ∧ ys = []) ∨ ∃ i, i ∉ ex ∧ b ≤ i ∧ q = .sl i 0 ys.length ∧ At h i (ys.map (.int .i64))
theorem LsAt.keep {b : Nat} {ex : List Nat} {h h' : PHeap} {q : PV} {ys : List Int} (o : LsAt b ex h q ys) (k : Keep h.length h h') : LsAt b ex h' q ys := by
  rcases o with o | ⟨i, h1, h2, h3, h4⟩
  · exact .inl o
  · exact .inr ⟨i, h1, h2, h3, h4.keep k⟩
theorem LsAt.kb {b j : Nat} {ex : List Nat} {h h' : PHeap} {q : PV} {ys : List Int} (o : LsAt b ex h q ys) (k : KB j h h') (hj : j ∈ ex) : LsAt b ex h' q ys := by
  rcases o with o | ⟨i, h1, h2, h3, h4⟩
  · exact .inl o
  · exact .inr ⟨i, h1, h2, h3, h4.kb k fun e => h1 (e ▸ hj)⟩
theorem LsAt.more {b j : Nat} {ex : List Nat} {h h1 h2 : PHeap} {q : PV} {ys : List Int} (o : LsAt b ex h q ys) (k : Keep h.length h h1) (k2 : KB j h1 h2) (hj : h.length ≤ j) : LsAt b (j :: ex) h2 q ys := by
  rcases o with o | ⟨i, a1, a2, a3, a4⟩
  · exact .inl o
  · have hi := a4.lt
    have hne : i ≠ j := by omega
    exact .inr ⟨i, by simp [hne, a1], a2, a3, (a4.keep k).kb k2 hne⟩
theorem LsAt.less {b j : Nat} {ex : List Nat} {h : PHeap} {q : PV} {ys : List Int} (o : LsAt b (j :: ex) h q ys) : LsAt b ex h q ys := by
  rcases o with o | ⟨i, a1, a2⟩
  · exact .inl o
  · exact .inr ⟨i, fun hi => a1 (List.mem_cons_of_mem _ hi), a2⟩
theorem LsAt.own {b : Nat} {ex : List Nat} {h : PHeap} {q : PV} {ys : List Int} (o : LsAt b ex h q ys) : OwnSl b h q ys := by
  rcases o with ⟨rfl, rfl⟩ | ⟨i, h1, h2, h3, h4⟩
  · exact OwnSl.nil _ _
  · exact SlAt.own (i := i) (.inr ⟨h3, h4⟩) h2
variable (g : Nat → PV) (lf n : Nat)

theorem smallOk_N (r c : Int) (N : Nat) (hN : 3 ≤ N) (h : PHeap) : CL g lf N fn_impl_smallOk [.int .i64 r, .int .i64 c] h = some (.bool (boardB r c && decide (r * c ≤ 6)), h) := by
  obtain ⟨n, rfl⟩ : ∃ n, N = n + 1 := ⟨N - 1, by omega⟩
  have e1 := boardOk_N g lf n (by omega) h r c
  suffices this : W (CL g lf (n + 1) fn_impl_smallOk [.int .i64 r, .int .i64 c] h) fun v h' => v = .bool (boardB r c && decide (r * c ≤ 6)) ∧ h' = h by
    obtain ⟨_, _, e, rfl, rfl⟩ := this; exact e
  rw [impl_smallOk.call_eq]
  unfold impl_smallOk.main
  simp only [env_C, env_pick, env_bin]
  cases hb : boardB r c with
  | false =>
    rw [hb] at e1
    repeat (first | with_reducible refine wg0 rfl ?_ | with_reducible refine wpF ?_ | with_reducible refine wsm ?_ | with_reducible refine wrB ?_ | with_reducible refine wbd (by assumption) ?_ | dsimp only)
    exact W.ret ⟨rfl, rfl⟩
  | true =>
    rw [hb] at e1
    obtain ⟨R, C, rfl, rfl, hB⟩ := boardB_nat hb
    obtain ⟨b1, b2, b3, b4, b9⟩ := id hB
    rw [Bool.true_and, ← Int.natCast_mul]
    by_cases h6 : R * C ≤ 6
    · rw [decide_eq_true (show ((R * C : Nat) : Int) ≤ 6 by omega)]
      repeat (first | with_reducible refine wg1 rfl ?_ | with_reducible refine wpT ?_ | with_reducible refine wpv ?_ | with_reducible refine wsm ?_ | with_reducible refine wrB ?_ | with_reducible refine wbd (by assumption) ?_ | with_reducible refine wmulN (by omega) ?_ | with_reducible refine wleqT (by omega) ?_ | dsimp only)
      exact W.ret ⟨rfl, rfl⟩
    · rw [decide_eq_false (show ¬ ((R * C : Nat) : Int) ≤ 6 by omega)]
      repeat (first | with_reducible refine wg1 rfl ?_ | with_reducible refine wpT ?_ | with_reducible refine wpv ?_ | with_reducible refine wsm ?_ | with_reducible refine wrB ?_ | with_reducible refine wbd (by assumption) ?_ | with_reducible refine wmulN (by omega) ?_ | with_reducible refine wleqF (by omega) ?_ | dsimp only)
      exact W.ret ⟨rfl, rfl⟩

theorem bestOk (hbig : Big g) (hlf : 1000 < lf) : BestOk g lf := fun N hN r c h ht => by
  obtain ⟨n, rfl⟩ : ∃ n, N = n + 1 := ⟨N - 1, by omega⟩
  suffices this : W (CL g lf (n + 1) fn_impl_BestRecord [.int .i64 r, .int .i64 c] h) fun q h' => OwnSl h.length h' q (bestL r c) ∧ Keep h.length h h' by
    obtain ⟨q, h', e, o, k⟩ := this
    exact ⟨q, h', e, o, k⟩
  have e1 := smallOk_N g lf r c n (by omega) h
  rw [impl_BestRecord.call_eq]
  unfold impl_BestRecord.main
  simp only [env_C, env_un]
  cases hsm : (boardB r c && decide (r * c ≤ 6)) with
  | false =>
    rw [hsm] at e1
    have he : bestL r c = [] := by
      unfold bestL
      rw [if_neg]
      rintro ⟨h1, h2⟩
      rw [h1, decide_eq_true h2] at hsm
      cases hsm
    rw [he]
    repeat (first | with_reducible refine wT ?_ | with_reducible refine wnF ?_ | with_reducible refine wrN ?_ | with_reducible refine wbd (by assumption) ?_ | dsimp only)
    exact W.ret ⟨OwnSl.nil _ _, Keep.refl _ _⟩
  | true =>
    rw [hsm] at e1
    rw [Bool.and_eq_true, decide_eq_true_iff] at hsm
    have he : bestL r c = lineL r c (startL r c) 1 := by unfold bestL; rw [if_pos hsm]
    rw [he]
    obtain ⟨q, h1, e2, o1, k1⟩ := freeBoard_W g lf n (by omega) h r c
    have hst : (if boardB r c = true then freeL r.toNat c.toNat else []) = startL r c := by
      rw [if_pos hsm.1]
      obtain ⟨R, C, rfl, rfl, hB⟩ := boardB_nat hsm.1
      exact (start_nat R C).symm
    rw [hst] at o1
    have hl9 : (startL r c).length ≤ 9 := by
      obtain ⟨R, C, rfl, rfl, hB⟩ := boardB_nat hsm.1
      rw [start_nat, List.length_replicate]; exact hB.2.2.2.2
    obtain ⟨q2, h2, e3, o2, k2⟩ := lineOk g lf hbig hlf n (by omega) r c 1 (ht.keep k1) o1.int (by omega) (by omega)
    repeat (first | with_reducible refine wF ?_ | with_reducible refine wnT ?_ | with_reducible refine wbd (by assumption) ?_ | (with_reducible refine wresO o2 ?_) | dsimp only)
    exact W.ret ⟨o2.mono k1.1, k1.trans (k2.mono k1.1)⟩

end Go.Proofs.YtpaehbfknlpkbaeDoor

