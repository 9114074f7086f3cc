/- Texts of this seat, in their order, put together by program. -/
import Derived.Test.YtpaehbfknlpkbabDoorK12
set_option linter.unusedSimpArgs false
set_option linter.unusedVariables false
set_option linter.unusedSectionVars false
/- The program's chapter 3: MoveOk, Played, WinnerOf, WinningCells and LinePlayed compute what the model's do. -/
set_option maxRecDepth 20000
namespace Go.Proofs.YtpaehbfknlpkbabDoor
open Go Go.Ip G

variable (g : Nat → PV) (lf n : Nat)

/-! ### moves -/
theorem moveOk_W (hlf : 1000 < lf) (N : Nat) (hN : 30 ≤ N) (r c k pl : Int) {xs : List Int} {p : PV} {h : PHeap} (ht : TabOk g h) (hp : IntSl .i64 h p xs) (hl : xs.length ≤ 2 ^ 35) (hf : xs.length < lf) :
    ∃ h', CL g lf N fn_impl_MoveOk [.int .i64 r, .int .i64 c, p, .int .i64 k, .int .i64 pl] h = some (.bool (moveL r c xs k pl), h') ∧ Keep h.length h h' := by
  obtain ⟨n, rfl⟩ : ∃ n, N = n + 1 := ⟨N - 1, by omega⟩
  have hpos := positionOk_N g lf n (by omega) r c hp (by omega) hf
  have hplay := playerOk_W g lf n (by omega) h pl
  have hcell := cellOk_N g lf n (by omega) h r c k
  have : W (CL g lf (n + 1) fn_impl_MoveOk [.int .i64 r, .int .i64 c, p, .int .i64 k, .int .i64 pl] h) fun v h' => v = .bool (moveL r c xs k pl) ∧ Keep h.length h h' := by
    rw [impl_MoveOk.call_eq]
    unfold impl_MoveOk.main
    simp only [env_C, env_pick, env_load, env_bin, env_un, env_indexAddr]
    unfold moveL
    cases hb : posB r c xs with
    | false =>
      rw [hb] at hpos
      repeat (first | with_reducible refine wT ?_ | with_reducible refine wg0 rfl ?_ | with_reducible refine wpT ?_ | with_reducible refine wnF ?_ | with_reducible refine wsm ?_ | with_reducible refine wrB ?_ | with_reducible refine wbd (by assumption) ?_ | dsimp only)
      exact W.ret ⟨rfl, Keep.refl _ _⟩
    | true =>
      rw [hb] at hpos
      cases hpl : playerB pl with
      | false =>
        rw [hpl] at hplay
        repeat (first | with_reducible refine wT ?_ | with_reducible refine wg1 rfl ?_ | with_reducible refine wg0 rfl ?_ | with_reducible refine wpT ?_ | with_reducible refine wpF ?_ | with_reducible refine wnT ?_ | with_reducible refine wnF ?_ | with_reducible refine wpv ?_ | with_reducible refine wsm ?_ | with_reducible refine wrB ?_ | with_reducible refine wbd (by assumption) ?_ | dsimp only)
        exact W.ret ⟨rfl, Keep.refl _ _⟩
      | true =>
        rw [hpl] at hplay
        obtain ⟨R, C, hS⟩ := sides_of hb
        obtain ⟨rfl, rfl, _, _, _, _, h9, hlen, _⟩ := id hS
        have hbb : boardB (R : Int) (C : Int) = true := by unfold posB at hb; simp only [Bool.and_eq_true] at hb; exact hb.1.1
        have hcb : cellB (R : Int) (C : Int) k = decide (0 ≤ k ∧ k < (xs.length : Int)) := by
          unfold cellB; rw [hbb, hlen, Bool.true_and]; rfl
        rw [hcb] at hcell
        cases hk : decide (0 ≤ k ∧ k < (xs.length : Int)) with
        | false =>
          rw [hk] at hcell
          repeat (first | with_reducible refine wT ?_ | with_reducible refine wg1 rfl ?_ | with_reducible refine wpF ?_ | with_reducible refine wnT ?_ | with_reducible refine wnF ?_ | with_reducible refine wpv ?_ | with_reducible refine wsm ?_ | with_reducible refine wrB ?_ | with_reducible refine wbd (by assumption) ?_ | dsimp only)
          exact W.ret ⟨rfl, Keep.refl _ _⟩
        | true =>
          rw [hk] at hcell
          have hkb := of_decide_eq_true hk
          obtain ⟨K, rfl⟩ := Int.eq_ofNat_of_zero_le hkb.1
          have hK : K < xs.length := by omega
          have hgd : xs.getD (K : Int).toNat 0 = xs[K] := by
            rw [show ((K : Int).toNat) = K from rfl, List.getD_eq_getElem?_getD, List.getElem?_eq_getElem hK]; rfl
          rw [hgd]
          obtain ⟨h1, e1, k1⟩ := joinsOk g lf hlf n (by omega) R C 1 ht hp hl hf
          obtain ⟨h2, e2, k2⟩ := joinsOk g lf hlf n (by omega) R C 2 (ht.keep k1) (hp.keep k1) hl hf
          repeat (first | with_reducible refine wF ?_ | with_reducible refine wg1 rfl ?_ | with_reducible refine wpF ?_ | with_reducible refine wnT ?_ | with_reducible refine wpv ?_ | with_reducible refine wsm ?_ | with_reducible refine wbd (by assumption) ?_ | (with_reducible refine wat hp hK fun a hl => ?_) | dsimp only)
          refine weql (fun e => ?_) (fun e => ?_)
          · rw [decide_eq_true e]
            cases hj1 : joinsL (R : Int) (C : Int) xs 1 with
            | true =>
              rw [hj1] at e1
              repeat (first | with_reducible refine wg1 rfl ?_ | with_reducible refine wg0 rfl ?_ | with_reducible refine wpT ?_ | with_reducible refine wpF ?_ | with_reducible refine wnT ?_ | with_reducible refine wpv ?_ | with_reducible refine wsm ?_ | with_reducible refine wrB ?_ | with_reducible refine wbd (by assumption) ?_ | dsimp only)
              exact W.ret ⟨by simp, k1⟩
            | false =>
              rw [hj1] at e1
              cases hj2 : joinsL (R : Int) (C : Int) xs 2 with
              | true =>
                rw [hj2] at e2
                repeat (first | with_reducible refine wg1 rfl ?_ | with_reducible refine wpT ?_ | with_reducible refine wnT ?_ | with_reducible refine wnF ?_ | with_reducible refine wpv ?_ | with_reducible refine wsm ?_ | with_reducible refine wrB ?_ | with_reducible refine wbd (by assumption) ?_ | dsimp only)
                exact W.ret ⟨by simp, k1.trans (k2.mono k1.1)⟩
              | false =>
                rw [hj2] at e2
                repeat (first | with_reducible refine wg1 rfl ?_ | with_reducible refine wpT ?_ | with_reducible refine wnF ?_ | with_reducible refine wpv ?_ | with_reducible refine wsm ?_ | with_reducible refine wrB ?_ | with_reducible refine wbd (by assumption) ?_ | dsimp only)
                exact W.ret ⟨by simp, k1.trans (k2.mono k1.1)⟩
          · rw [decide_eq_false e]
            repeat (first | with_reducible refine wg0 rfl ?_ | with_reducible refine wpF ?_ | with_reducible refine wsm ?_ | with_reducible refine wrB ?_ | dsimp only)
            exact W.ret ⟨by simp, Keep.refl _ _⟩
  obtain ⟨_, h', e, rfl, k⟩ := this
  exact ⟨h', e, k⟩

theorem clone_W {xs : List Int} {p : PV} {h : PHeap} (hp : IntSl .i64 h p xs) (hx : 0 < xs.length) (hl : xs.length ≤ 2 ^ 36) (N : Nat) (hN : 1 ≤ N) :
    W (CL g lf N fn_slices_Clone___int_int_ [p] h) fun q h' => OwnSl h.length h' q xs ∧ Keep h.length h h' := by
  obtain ⟨n, rfl⟩ : ∃ n, N = n + 1 := ⟨N - 1, by omega⟩
  obtain ⟨v, q, h2, e2, e3, o2, k2⟩ := copy_all hp hx hl
  rw [slices_Clone___int_int_.call_eq]
  unfold slices_Clone___int_int_.main
  simp only [env_buildSlice, env_bin, env_append]
  rcases hp with ⟨rfl, rfl⟩ | ⟨id, off, rfl, hc⟩
  · simp at hx
  · refine wnilF ?_
    repeat (first | with_reducible refine wF ?_ | with_reducible refine wbd (by assumption) ?_ | with_reducible refine wresO (by assumption) ?_ | dsimp only)
    exact W.ret ⟨o2, k2⟩

theorem playedOk (hlf : 1000 < lf) : PlayedOk g lf := by
  intro N hN r c k pl xs p h ht hp hl hf
  obtain ⟨n, rfl⟩ : ∃ n, N = n + 1 := ⟨N - 1, by omega⟩
  obtain ⟨h1, e1, k1⟩ := moveOk_W g lf hlf n (by omega) r c k pl ht hp hl hf
  have : W (CL g lf (n + 1) fn_impl_Played [.int .i64 r, .int .i64 c, p, .int .i64 k, .int .i64 pl] h) fun v h' => ∃ q, v = .tup [q, .bool (moveL r c xs k pl)] ∧ OwnSl h.length h' q (playedL r c xs k pl) ∧ Keep h.length h h' := by
    rw [impl_Played.call_eq]
    unfold impl_Played.main
    simp only [env_C, env_store, env_un, env_indexAddr]
    unfold playedL
    cases hm : moveL r c xs k pl with
    | false =>
      rw [hm] at e1
      repeat (first | with_reducible refine wT ?_ | with_reducible refine wnF ?_ | with_reducible refine wrB ?_ | with_reducible refine wrN ?_ | with_reducible refine wbd (by assumption) ?_ | dsimp only)
      exact W.ret ⟨_, rfl, OwnSl.nil _ _, k1⟩
    | true =>
      rw [hm] at e1
      obtain ⟨K, rfl, hK⟩ := moveL_cell hm
      repeat (first | with_reducible refine wF ?_ | with_reducible refine wnT ?_ | with_reducible refine wbd (by assumption) ?_ | dsimp only | simp only [env_C, env_Y, env_g, env_lf, env_pick, env_alloc, env_box, env_build, env_buildSlice, env_load, env_store, env_ptr, env_bin, env_un, env_conv, env_make, env_slice, env_fieldAddr, env_field, env_indexAddr, env_index, env_extract, env_len, env_append, env_max, env_min, env_makeMap, env_lookup, env_update, env_clos, env_bstr, env_ext])
      refine wcall (clone_W g lf (hp.keep k1) (by omega) (by omega) n (by omega)) fun q h2 ⟨o2, k2⟩ => ?_
      repeat (first | with_reducible refine wrB ?_ | (refine wst o2 hK fun h3 o3 k3 l3 a e4 => ?_) | with_reducible refine wresO (by assumption) ?_ | dsimp only)
      skip
      exact W.ret ⟨_, rfl, o3.mono k1.1, k1.trans ((k2.trans k3).mono k1.1)⟩
  obtain ⟨_, h', e, q, rfl, o, k⟩ := this
  exact ⟨q, h', e, o, k⟩

/-! ### who wins -/
theorem winnerOk (hbig : Big g) (hlf : 1000 < lf) : WinnerOk g lf := by
  intro N hN r c t xs p h ht hp hl hf
  obtain ⟨n, rfl⟩ : ∃ n, N = n + 1 := ⟨N - 1, by omega⟩
  have hpos := positionOk_N g lf n (by omega) r c hp (by omega) hf
  have hplay := playerOk_W g lf n (by omega) h t
  have : W (CL g lf (n + 1) fn_impl_WinnerOf [.int .i64 r, .int .i64 c, p, .int .i64 t] h) fun v h' => v = .int .i64 (winL r c xs t) ∧ Keep h.length h h' := by
    rw [impl_WinnerOf.call_eq]
    unfold impl_WinnerOf.main
    simp only [env_C, env_pick, env_un]
    cases hb : posB r c xs with
    | false =>
      rw [hb] at hpos
      repeat (first | with_reducible refine wT ?_ | with_reducible refine wg0 rfl ?_ | with_reducible refine wpT ?_ | with_reducible refine wnF ?_ | with_reducible refine wsm ?_ | with_reducible refine wrI ?_ | with_reducible refine wbd (by assumption) ?_ | dsimp only)
      exact W.ret ⟨by rw [winL_none (.inl hb)], Keep.refl _ _⟩
    | true =>
      rw [hb] at hpos
      cases hpl : playerB t with
      | false =>
        rw [hpl] at hplay
        repeat (first | with_reducible refine wT ?_ | with_reducible refine wg1 rfl ?_ | with_reducible refine wpF ?_ | with_reducible refine wnT ?_ | with_reducible refine wnF ?_ | with_reducible refine wpv ?_ | with_reducible refine wsm ?_ | with_reducible refine wrI ?_ | with_reducible refine wbd (by assumption) ?_ | dsimp only)
        refine W.ret ⟨?_, Keep.refl _ _⟩
        unfold winL; rw [hpl, Bool.and_false]; rfl
      | true =>
        rw [hpl] at hplay
        obtain ⟨R, C, hS⟩ := sides_of hb
        obtain ⟨T, rfl, hT⟩ := player_of hpl
        have hB := board_of_sides hS
        obtain ⟨rfl, rfl, _, _, _, _, h9, hlen, _⟩ := id hS
        repeat (first | with_reducible refine wF ?_ | with_reducible refine wg1 rfl ?_ | with_reducible refine wpF ?_ | with_reducible refine wnT ?_ | with_reducible refine wpv ?_ | with_reducible refine wsm ?_ | with_reducible refine wbd (by assumption) ?_ | dsimp only)
        refine wcall (newSearch_W g lf hB n (by omega) hlf ht.1) fun v h1 ⟨s, m, hv, hs, k1, l1, l2⟩ => ?_
        subst hv
        repeat (first | dsimp only)
        refine wcall (standingOf_W g lf (hp.keep k1) (by omega) T n (by omega) hlf) fun v h2 ⟨hv, k2⟩ => ?_
        subst hv
        repeat (first | dsimp only)
        refine wcall (sWinner_W g lf hB hbig hlf 9 _ _ _ _ n h2 (Nat.le_trans (fr_le _ _ _) h9) (stands_of hS hT) (by omega) (hs.keep k2) ((ht.2.keep k1).keep k2)) fun v h3 ⟨hv, hs3, k3⟩ => ?_
        subst hv
        repeat (first | with_reducible refine wrI ?_ | dsimp only)
        exact W.ret ⟨by rw [winL_eq hb hT], (k1.trans (k2.mono k1.1)).kbs (Nat.le_refl _) k3 l2⟩
  obtain ⟨_, h', e, rfl, k⟩ := this
  exact ⟨h', e, k⟩

theorem who_zero {R C : Nat} {xs : List Int} (hb : posB (R : Int) (C : Int) xs = true) : whoN R C (setL xs 1) (setL xs 2) = 0 ↔ joinsL (R : Int) (C : Int) xs 1 = false ∧ joinsL (R : Int) (C : Int) xs 2 = false := by
  rw [joins_one hb, joins_two hb]
  unfold whoN
  cases joinsN R C 1 (setL xs 1) <;> cases joinsN R C 2 (setL xs 2) <;> simp

/-- The winning cells, out of the set that the search finds. -/
theorem winCells_list {R C T S : Nat} {xs : List Int} (hb : posB (R : Int) (C : Int) xs = true) (hS : Sides (R : Int) (C : Int) R C xs) (hT : T = 1 ∨ T = 2)
    (hSb : ∀ k, S.testBit k = true ↔ whoN R C (setL xs 1) (setL xs 2) = 0 ∧ (setL xs 0).testBit k = true ∧ winN R C (putA T k (setL xs 1)) (putB T k (setL xs 2)) (3 - T) = T) :
    winCellsL (R : Int) (C : Int) xs (T : Int) = listN S := by
  have hx9 : xs.length ≤ 9 := by have := hS.2.2.2.2.2.2.2.1; have := hS.2.2.2.2.2.2.1; omega
  have hT' : 3 - T = 1 ∨ 3 - T = 2 := by omega
  have e3 : (3 : Int) - (T : Int) = ((3 - T : Nat) : Int) := by omega
  rw [listN_filter]
  unfold winCellsL
  congr 1
  have h9 : List.range 9 = List.range xs.length ++ (List.range' xs.length (9 - xs.length)) := by
    rw [List.range_eq_range', List.range_eq_range', show 9 = xs.length + (9 - xs.length) by omega, ← List.range'_append_1]; simp
  rw [h9, List.filter_append]
  have hnil : (List.range' xs.length (9 - xs.length)).filter (fun k => S.testBit k) = [] := by
    rw [List.filter_eq_nil_iff]
    intro k hk
    rw [List.mem_range'_1] at hk
    intro h
    have := ((hSb k).1 h).2.1
    have := set_in hS this
    have := hS.2.2.2.2.2.2.2.1
    omega
  rw [hnil, List.append_nil]
  apply List.filter_congr
  intro k hk
  rw [Bool.eq_iff_iff, winsB_iff, moveL_iff, hSb, who_zero hb, setL_bit]
  constructor
  · rintro ⟨⟨_, _, h3, h4, h5⟩, h6⟩
    rw [e3, winL_set hb hT hT' h3] at h6
    exact ⟨⟨h4, h5⟩, h3, by omega⟩
  · rintro ⟨⟨h4, h5⟩, h3, h6⟩
    refine ⟨⟨hb, playerB_of hT, h3, h4, h5⟩, ?_⟩
    rw [e3, winL_set hb hT hT' h3]; omega

/-! ### a line -/
theorem listN_head {S : Nat} (hS : S < 2 ^ 9) (h0 : S ≠ 0) (d : Int) : (listN S).headD d = (lowN S : Int) := by
  have hl := (low_ok hS h0).1
  have h9 := (low_ok hS h0).2.1
  rw [listN_filter]
  unfold lowN at *
  cases hf : (List.range 9).find? fun k => S.testBit k with
  | none =>
    rw [hf] at hl h9
    exact absurd h9 (by decide)
  | some k =>
    have : ((List.range 9).filter fun k => S.testBit k).head? = some k := by rw [List.head?_filter, hf]
    cases hq : (List.range 9).filter fun k => S.testBit k with
    | nil => rw [hq] at this; cases this
    | cons a l =>
      rw [hq] at this
      cases this
      rfl

/-- A list of integers at an object of its own. -/
def SlAt (i : Nat) (h : PHeap) (p : PV) (ys : List Int) : Prop := (p = .nilsl ∧ ys = []) ∨ (p = .sl i 0 ys.length ∧ At h i (ys.map (.int .i64)))
theorem SlAt.keep {i : Nat} {h h' : PHeap} {p : PV} {ys : List Int} (s : SlAt i h p ys) (k : Keep h.length h h') : SlAt i h' p ys := by
  rcases s with s | ⟨a, b⟩
  · exact .inl s
  · exact .inr ⟨a, b.keep k⟩
theorem SlAt.kb {i m : Nat} {h h' : PHeap} {p : PV} {ys : List Int} (s : SlAt i h p ys) (k : KB m h h') (hn : i ≠ m) : SlAt i h' p ys := by
  rcases s with s | ⟨a, b⟩
  · exact .inl s
  · exact .inr ⟨a, b.kb k hn⟩
theorem SlAt.own {i n : Nat} {h : PHeap} {p : PV} {ys : List Int} (s : SlAt i h p ys) (hn : n ≤ i) : OwnSl n h p ys := by
  rcases s with s | ⟨a, b⟩
  · exact .inl s
  · exact .inr ⟨i, hn, a, b⟩
theorem wapS {Q : PV → PHeap → Prop} {i : Nat} {h : PHeap} {p : PV} {ys : List Int} (s : SlAt i h p ys) {x : Int} (hl : ys.length + 1 ≤ 2 ^ 36) {F : PV × PHeap → Res}
    (hf : ∀ p' h' j, SlAt j h' p' (ys ++ [x]) → KB i h h' → h.length ≤ j → W (F (p', h')) Q) :
    W ((buildSliceP Tryd.prog 23 1 [(0, .int .i64 x)] h).bind fun v => (appendP Tryd.prog 23 23 p v.1 v.2).bind F) Q := by
  have hb : buildSliceP Tryd.prog 23 1 [(0, .int .i64 x)] h = some (.sl h.length 0 1, h ++ [.own 1 [.int .i64 x]]) := by
    simp [buildSliceP, tyElem, tySize, tyZero, repeatCells, fillP, PV.cells, setCells]
  have hsrc : srcP (h ++ [.own 1 [.int .i64 x]]) 1 (.sl h.length 0 1) = some (1, [.int .i64 x]) := by
    simp [srcP, cellsAt, PObj.get]
  refine wbd hb ?_
  rcases s with ⟨rfl, rfl⟩ | ⟨rfl, h3⟩
  · refine wbd (v := (.sl (h.length + 1) 0 1, h ++ [.own 1 [.int .i64 x]] ++ [.own 1 [.int .i64 x]])) (by simp [appendP, tyElem, tySize, tySmall, hsrc]) ?_
    refine hf _ _ (h.length + 1) (.inr ⟨rfl, ?_⟩) ?_ (by omega)
    · unfold At; rw [List.getElem?_append_right (by simp)]; simp
    · rw [List.append_assoc]; exact (Keep.append _ _ _ (Nat.le_refl _)).kb
  · have hid := h3.lt
    have h3' : (h ++ [PObj.own 1 [.int .i64 x]])[i]? = some (.own 1 (ys.map (.int .i64))) := by rw [List.getElem?_append_left hid]; exact h3
    refine wbd (v := (.sl (h.length + 1) 0 (ys.length + 1), ((h ++ [PObj.own 1 [.int .i64 x]]).set i .dead ++ [PObj.own 1 (ys.map (.int .i64) ++ [.int .i64 x])]))) (by simp [appendP, tyElem, tySize, tySmall, hsrc, h3', hl]) ?_
    refine hf _ _ (h.length + 1) (.inr ⟨by simp, ?_⟩) ?_ (by omega)
    · unfold At; rw [List.getElem?_append_right (by simp)]; simp
    · refine ⟨by simp; omega, fun j hj hne => ?_⟩
      rw [List.getElem?_append_left (by simp; omega), List.getElem?_set_ne (by omega), List.getElem?_append_left hj]
theorem Sch.kbo {R C s m i : Nat} {h h' : PHeap} (hs : Sch R C h s m) (k : KB i h h') (h1 : s ≠ i) (h2 : m ≠ i) : Sch R C h' s m := by
  obtain ⟨a, es, b, c⟩ := hs; exact ⟨a.kb k h1, es, b.kb k h2, c⟩
theorem wresSl {Q : PV → PHeap → Prop} {i : Nat} {h : PHeap} {p : PV} {ys : List Int} (s : SlAt i h p ys) {f : PV → Res} (hf : W (f p) Q) : W ((resV p).bind f) Q := wbd (s.own (Nat.le_refl i)).res hf

theorem goB_who {R C : Nat} {xs : List Int} (hb : posB (R : Int) (C : Int) xs = true) : goB (R : Int) (C : Int) xs = (!decide (setL xs 0 = 0) && decide (whoN R C (setL xs 1) (setL xs 2) = 0)) := by
  have hw := who_zero (R := R) (C := C) hb
  unfold goB
  rw [Bool.and_assoc]
  congr 1
  rw [Bool.eq_iff_iff, decide_eq_true_iff, hw]
  simp

set_option maxHeartbeats 2000000 in
theorem lineOk (hbig : Big g) (hlf : 1000 < lf) : LineOk g lf := by
  intro N hN r c t xs p h ht hp hl hf
  obtain ⟨n, rfl⟩ : ∃ n, N = n + 1 := ⟨N - 1, by omega⟩
  have hpos := positionOk_N g lf n (by omega) r c hp (by omega) hf
  have hplay := playerOk_W g lf n (by omega) h t
  suffices this : W (CL g lf (n + 1) fn_impl_LinePlayed [.int .i64 r, .int .i64 c, p, .int .i64 t] h) fun q h' => OwnSl h.length h' q (lineL r c xs t) ∧ Keep h.length h h' by
    obtain ⟨q, h', e, o, k⟩ := this
    exact ⟨q, h', e, o, k⟩
  rw [impl_LinePlayed.call_eq]
  unfold impl_LinePlayed.main
  simp only [env_C, env_lf, env_pick, env_alloc, env_store, env_un]
  cases hb : posB r c xs with
  | false =>
    rw [hb] at hpos
    rw [lineL_none (.inl hb)]
    repeat (first | with_reducible refine wT ?_ | with_reducible refine wg0 rfl ?_ | with_reducible refine wpT ?_ | with_reducible refine wnF ?_ | with_reducible refine wsm ?_ | with_reducible refine wrN ?_ | with_reducible refine wbd (by assumption) ?_ | dsimp only)
    exact W.ret ⟨OwnSl.nil _ _, Keep.refl _ _⟩
  | true =>
    rw [hb] at hpos
    cases hpl : playerB t with
    | false =>
      rw [hpl] at hplay
      have : lineL r c xs t = [] := by unfold lineL; rw [hpl, Bool.and_false]; rfl
      rw [this]
      repeat (first | with_reducible refine wT ?_ | with_reducible refine wg1 rfl ?_ | with_reducible refine wpF ?_ | with_reducible refine wnT ?_ | with_reducible refine wnF ?_ | with_reducible refine wpv ?_ | with_reducible refine wsm ?_ | with_reducible refine wrN ?_ | with_reducible refine wbd (by assumption) ?_ | dsimp only)
      exact W.ret ⟨OwnSl.nil _ _, Keep.refl _ _⟩
    | true =>
      rw [hpl] at hplay
      obtain ⟨R, C, hS⟩ := sides_of hb
      obtain ⟨T, rfl, hT⟩ := player_of hpl
      have hB := board_of_sides hS
      obtain ⟨rfl, rfl, _, _, _, _, h9, hlen, _⟩ := id hS
      repeat (first | with_reducible refine wF ?_ | with_reducible refine wg1 rfl ?_ | with_reducible refine wpF ?_ | with_reducible refine wnT ?_ | with_reducible refine wpv ?_ | with_reducible refine wsm ?_ | with_reducible refine wbd (by assumption) ?_ | dsimp only)
      refine wcall (newSearch_W g lf hB n (by omega) hlf ht.1) fun v h1 ⟨s, m, hv, hs, k1, l1, l2⟩ => ?_
      subst hv
      repeat (first | dsimp only)
      refine wcall (standingOf_W g lf (hp.keep k1) (by omega) T n (by omega) hlf) fun v h2 ⟨hv, k2⟩ => ?_
      subst hv
      have hs2 := hs.keep k2
      have kk2 := k1.trans (k2.mono k1.1)
      repeat (first | dsimp only)
      refine walS fun h3 id o3 k3 l3 => ?_
      dsimp only at k3 l3 ⊢
      refine wstS o3 fun h4 o4 k4 => ?_
      have hs3 := hs2.keep k3
      have hsid : s ≠ id := by have := hs2.1.lt; omega
      have hmid : m ≠ id := by have := hs2.lt; omega
      have hs4 := hs3.kbo k4 hsid hmid
      have lid : h.length ≤ id := Nat.le_trans kk2.1 l3
      have kk4 := (kk2.trans (k3.mono kk2.1)).kbs (Nat.le_refl _) k4 lid
      have hline : lineL (R : Int) (C : Int) xs (T : Int) = lineF (R : Int) (C : Int) xs.length xs (T : Int) := by unfold lineL; rw [hb, hpl]; rfl
      have hpop : pop (setL xs 0) ≤ xs.length := by rw [hlen]; exact pop_le h9 (set_lt hS 0)
      have hx9 : xs.length ≤ 9 := by omega
      skip
      refine loopW (fun m' st => ∃ (zs ys : List Int) (U : Nat) (q : PV) (i id : Nat) (h5 : PHeap), st = impl_LinePlayed.st0 (.ptr s 0) q (.ptr id 0) h5 ∧ posB (R : Int) (C : Int) zs = true ∧ Sides (R : Int) (C : Int) R C zs ∧ (U = 1 ∨ U = 2) ∧
        At h5 id (stC (setL zs 0) (setL zs 1) (setL zs 2) U) ∧ Sch R C h5 s m ∧ SlAt i h5 q ys ∧ i ≠ id ∧ i ≠ s ∧ i ≠ m ∧ h.length ≤ i ∧ s ≠ id ∧ m ≠ id ∧ h.length ≤ id ∧ pop (setL zs 0) ≤ m' ∧ ys.length + m' ≤ 9 ∧ ys ++ lineF (R : Int) (C : Int) m' zs (U : Int) = lineL (R : Int) (C : Int) xs (T : Int) ∧ Keep h.length h h5) ?_ lf xs.length _ (by omega)
        ⟨xs, [], T, .nilsl, h4.length, id, h4, rfl, hb, hS, hT, o4, hs4, .inl ⟨rfl, rfl⟩, by have := o4.lt; omega, by have := hs4.1.lt; omega, by have := hs4.lt; omega, kk4.1, hsid, hmid, lid, hpop, by simpa using hx9, by rw [hline]; rfl, kk4⟩
      clear hS hT hline hpop hb hpos hplay
      rintro n1 m1 st ⟨zs, ys, U, q, i, id, h5, rfl, hb, hS, hU, o5, hs5, sl5, i1, i2, i3, i4, d1, d2, d3, hpop, hyl, hfl, k5⟩ next
      have ht5 := ht.2.keep k5
      have hf9 := set_lt9 hS 0
      have ha9 := set_lt9 hS 1
      have hb9 := set_lt9 hS 2
      have hst := stands_of hS hU
      have hgo := goB_who hb
      rw [impl_LinePlayed.body0_eq]
      unfold impl_LinePlayed.body0
      simp only [env_C, env_pick, env_alloc, env_buildSlice, env_load, env_store, env_bin, env_fieldAddr, env_indexAddr, env_append]
      have hstop : goB (R : Int) (C : Int) zs = false → ys = lineL (R : Int) (C : Int) xs (T : Int) := fun hg => by
        rw [← hfl]
        cases m1 with
        | zero => rw [lineF, List.append_nil]
        | succ m1 => rw [lineF, hg, if_neg (by decide), List.append_nil]
      by_cases e0 : setL zs 0 = 0
      · have hg : goB (R : Int) (C : Int) zs = false := by rw [hgo, decide_eq_true e0]; rfl
        have hys := hstop hg
        repeat (first | with_reducible refine wF ?_ | with_reducible refine wg0 rfl ?_ | with_reducible refine wpF ?_ | with_reducible refine wsm ?_ | (with_reducible refine wbd (fSt0 _) ?_) | (with_reducible refine wia30 ?_) | (with_reducible refine wbd (ld1 (by assumption) rfl) ?_) | (with_reducible refine wresSl sl5 ?_) | with_reducible refine wneqF (by omega) ?_ | rw [kLoop_exit] | rw [impl_LinePlayed.after0_se0_9_10_11_39] | dsimp only)
        exact W.ret ⟨hys ▸ sl5.own i4, k5⟩
      · obtain ⟨h6, e6, k6⟩ := joined_W g lf (f := setL zs 0) (t := U) hB (pos_sets hS) hbig hs5.1 ht5 n (by omega) hlf
        have o6 := o5.keep k6
        have hs6 := hs5.keep k6
        have sl6 := sl5.keep k6
        have kk6 := k5.trans (k6.mono k5.1)
        have ht6 := ht5.keep k6
        obtain ⟨w1, w2, w3⟩ := who_win (t := U) hB (pos_sets hS)
        repeat (first | with_reducible refine wg1 rfl ?_ | with_reducible refine wpv ?_ | with_reducible refine wsm ?_ | with_reducible refine wbd (by assumption) ?_ | (with_reducible refine wbd (fSt0 _) ?_) | (with_reducible refine wia30 ?_) | (with_reducible refine wbd (ld1 (by assumption) rfl) ?_) | (with_reducible refine wbd (ldS (by assumption)) ?_) | with_reducible refine wneqT (by omega) ?_ | dsimp only)
        refine weql (fun ew => ?_) (fun ew => ?_)
        · have hw0 : whoN R C (setL zs 1) (setL zs 2) = 0 := by omega
          have hg : goB (R : Int) (C : Int) zs = true := by rw [hgo, decide_eq_false e0, decide_eq_true hw0]; rfl
          repeat (first | with_reducible refine wT ?_ | with_reducible refine wpT ?_ | (with_reducible refine wbd (ldS (by assumption)) ?_))
          refine wcall (sWinning_W g lf hB hbig hlf hst n (by omega) hs6 ht6) fun v h7 ⟨S, hv, hS9, hSb, hs7, k7⟩ => ?_
          subst hv
          have o7 := o6.kb k7 (hs6.ne o6)
          have sl7 := sl6.kb k7 i3
          have kk7 := kk6.kbs (Nat.le_refl _) k7 l2
          have ht7 := ht.2.keep kk7
          have hwl := winCells_list hb hS hU hSb
          -- one step, to a cell that is known
          have step : ∀ k : Nat, k < 9 → (setL zs 0).testBit k = true → stepL (R : Int) (C : Int) zs (U : Int) = (k : Int) → ∀ F : PV → PV → PHeap → Res,
              (∀ (p' : PV) (h10 : PHeap) (j id' : Nat), At h10 id' (stC (setL (zs.set k (U : Int)) 0) (setL (zs.set k (U : Int)) 1) (setL (zs.set k (U : Int)) 2) (3 - U)) → Sch R C h10 s m → SlAt j h10 p' (ys ++ [(k : Int)]) → j ≠ id' → j ≠ s → j ≠ m → h.length ≤ j → s ≠ id' → m ≠ id' → h.length ≤ id' → Keep h.length h h10 → W (F p' (.ptr id' 0) h10) fun q h' => OwnSl h.length h' q (lineL (R : Int) (C : Int) xs (T : Int)) ∧ Keep h.length h h') →
              W ((buildSliceP Tryd.prog 23 1 [(0, .int .i64 (k : Int))] h7).bind fun v1 => (appendP Tryd.prog 23 23 q v1.1 v1.2).bind fun v2 =>
                (loadP Tryd.prog 66 (.ptr id 0) v2.2).bind fun v3 => (CL g lf n fn_impl_standing_after [v3, .int .i64 (k : Int)] v2.2).bind fun v4 =>
                (storeP Tryd.prog 66 (.ptr id 0) v4.1 v4.2).bind fun v5 => (loadP Tryd.prog 66 (.ptr id 0) v5).bind fun v6 =>
                (allocP Tryd.prog 66 v5).bind fun v7 => (storeP Tryd.prog 66 v7.1 v6 v7.2).bind fun v8 => F v2.1 v7.1 v8) fun q h' => OwnSl h.length h' q (lineL (R : Int) (C : Int) xs (T : Int)) ∧ Keep h.length h h' := by
            intro k hk9 hkf hstep F hF
            have hk0 := setL_bit.1 hkf
            obtain ⟨q1, q2⟩ := set_putA hU hk0
            have q0 := (set_more hS hU hk0).2.1
            refine wapS sl7 (by omega) fun p' h8 j sl8 k8 lj => ?_
            have o8 := o7.kb k8 (Ne.symm i1)
            have hs8 := hs7.kbo k8 (Ne.symm i2) (Ne.symm i3)
            have kk8 := kk7.kbs (Nat.le_refl _) k8 i4
            refine wbd (ldS o8) ?_
            refine wcall (after_W g lf hf9 ha9 hb9 hk9 hU n (by omega) h8) fun v h9 ⟨hv, k9⟩ => ?_
            subst hv
            have o9 := o8.keep k9
            refine wstS o9 fun h10 o10 k10 => ?_
            refine wbd (ldS o10) ?_
            have hjid : j ≠ id := by have := o7.lt; omega
            have sl10 := (sl8.keep k9).kb k10 hjid
            have hs10 := (hs8.keep k9).kbo k10 d1 d2
            have kk10 := (kk8.trans (k9.mono kk8.1)).kbs (Nat.le_refl _) k10 d3
            refine walS fun h11 id' o11 k11 l11 => ?_
            refine wstS o11 fun h12 o12 k12 => ?_
            have hs11 := hs10.keep k11
            have z1 : s ≠ id' := by have := hs10.1.lt; omega
            have z2 : m ≠ id' := by have := hs10.lt; omega
            have z3 : j ≠ id' := by
              have hlen8 : j < h8.length := by
                rcases sl8 with ⟨_, b⟩ | ⟨_, b⟩
                · simp at b
                · exact b.lt
              have := k9.1; have := k10.1; omega
            have z4 : h.length ≤ id' := Nat.le_trans kk10.1 l11
            rw [← q0, ← q1, ← q2] at o12
            exact hF p' h12 j id' o12 (hs11.kbo k12 z1 z2) ((sl10.keep k11).kb k12 z3) z3 (by have := hs7.1.lt; omega) (by have := hs7.lt; omega) (Nat.le_trans kk7.1 lj) z1 z2 z4 ((kk10.trans (k11.mono kk10.1)).kbs (Nat.le_refl _) k12 z4)
          -- and what comes of it
          have fin : ∀ k : Nat, k < 9 → (setL zs 0).testBit k = true → stepL (R : Int) (C : Int) zs (U : Int) = (k : Int) →
              ∀ (p' : PV) (h10 : PHeap) (j id' : Nat), At h10 id' (stC (setL (zs.set k (U : Int)) 0) (setL (zs.set k (U : Int)) 1) (setL (zs.set k (U : Int)) 2) (3 - U)) → Sch R C h10 s m → SlAt j h10 p' (ys ++ [(k : Int)]) → j ≠ id' → j ≠ s → j ≠ m → h.length ≤ j → s ≠ id' → m ≠ id' → h.length ≤ id' → Keep h.length h h10 →
              W (kLoop (ev (Env.cx (env g lf n) Tryd.prog impl_LinePlayed.kl) impl_LinePlayed.lp0) n1 (impl_LinePlayed.K0 (env g lf n) (kTop Tryd.prog Tryd.f57)) .normal (impl_LinePlayed.st0 (.ptr s 0) p' (.ptr id' 0) h10)) fun q h' => OwnSl h.length h' q (lineL (R : Int) (C : Int) xs (T : Int)) ∧ Keep h.length h h' := by
            intro k hk9 hkf hstep p' h10 j id' o10 hs10 sl10 z1 z2 z3 z4 z5 z6 z7 kk10
            have hk0 := setL_bit.1 hkf
            have q0 := (set_more hS hU hk0).2.1
            have hpw := pop_without hf9 hkf
            cases m1 with
            | zero => omega
            | succ m1 =>
              have e3 : (3 : Int) - (U : Int) = ((3 - U : Nat) : Int) := by omega
              have hfl' := hfl
              rw [lineF, hg, if_pos rfl, hstep, e3] at hfl'
              refine next m1 _ (Nat.lt_succ_self m1) ⟨zs.set k (U : Int), ys ++ [(k : Int)], 3 - U, p', j, id', h10, rfl, pos_set hb hU k, sides_set hb hS hU, by omega, o10, hs10, sl10, z1, z2, z3, z4, z5, z6, z7, by rw [q0]; omega, by simp; omega, ?_, kk10⟩
              rw [List.append_assoc]; exact hfl'
          repeat (first | dsimp only)
          refine weql (fun es => ?_) (fun es => ?_)
          · have hS0 : S = 0 := by omega
            have hst0 : stepL (R : Int) (C : Int) zs (U : Int) = (lowN (setL zs 0) : Int) := by
              unfold stepL; rw [hwl, hS0, show listN 0 = [] from rfl]
              exact listN_head hf9 e0 0
            have el := leastIn_W g lf hf9 e0 hbig ht7 n (by omega)
            obtain ⟨c1, c2, c3, c4⟩ := low_ok hf9 e0
            repeat (first | with_reducible refine wT ?_ | with_reducible refine wbd (by assumption) ?_ | (with_reducible refine wbd (fSt0 _) ?_) | (with_reducible refine wia30 ?_) | (with_reducible refine wbd (ld1 (by assumption) rfl) ?_) | dsimp only)
            exact step _ c2 c1 hst0 (fun x y hh => kLoop (ev (Env.cx (env g lf n) Tryd.prog impl_LinePlayed.kl) impl_LinePlayed.lp0) n1 (impl_LinePlayed.K0 (env g lf n) (kTop Tryd.prog Tryd.f57)) .normal (impl_LinePlayed.st0 (.ptr s 0) x y hh)) (fin _ c2 c1 hst0)
          · have hS0 : S ≠ 0 := by omega
            have hst0 : stepL (R : Int) (C : Int) zs (U : Int) = (lowN S : Int) := by
              unfold stepL; rw [hwl]
              exact listN_head hS9 hS0 _
            have el := leastIn_W g lf hS9 hS0 hbig ht7 n (by omega)
            obtain ⟨c1, c2, c3, c4⟩ := low_ok hS9 hS0
            have c1' := ((hSb _).1 c1).2.1
            repeat (first | with_reducible refine wF ?_ | with_reducible refine wbd (by assumption) ?_ | dsimp only)
            exact step _ c2 c1' hst0 (fun x y hh => kLoop (ev (Env.cx (env g lf n) Tryd.prog impl_LinePlayed.kl) impl_LinePlayed.lp0) n1 (impl_LinePlayed.K0 (env g lf n) (kTop Tryd.prog Tryd.f57)) .normal (impl_LinePlayed.st0 (.ptr s 0) x y hh)) (fin _ c2 c1' hst0)
        · have hw0 : ¬ whoN R C (setL zs 1) (setL zs 2) = 0 := by omega
          have hg : goB (R : Int) (C : Int) zs = false := by rw [hgo, decide_eq_false hw0, Bool.and_false]
          have hys := hstop hg
          repeat (first | with_reducible refine wF ?_ | with_reducible refine wpT ?_ | (with_reducible refine wresSl sl6 ?_) | rw [kLoop_exit] | rw [impl_LinePlayed.after0_se0_9_10_11_39])
          exact W.ret ⟨hys ▸ sl6.own i4, kk6⟩

end Go.Proofs.YtpaehbfknlpkbabDoor

/- The program's chapter 4: PairCell and PairFilled compute what the model's do, and boards that are free or wider. -/
set_option maxRecDepth 20000
namespace Go.Proofs.YtpaehbfknlpkbabDoor
open Go Go.Ip G

/-! ### a number's lowest bit -/
section
variable {Q : PV → PHeap → Prop} {x : Nat} {f : PV → Res}
end

variable (g : Nat → PV) (lf n : Nat)

/-! ### boards that are free, and boards that are wider -/
theorem freeBoard_W (N : Nat) (hN : 3 ≤ N) (h : PHeap) (r c : Int) :
    ∃ q h', CL g lf N fn_impl_freeBoard [.int .i64 r, .int .i64 c] h = some (q, h') ∧ OwnSl h.length h' q (if boardB r c = true then freeL r.toNat c.toNat else []) ∧ Keep h.length h h' := by
  obtain ⟨n, rfl⟩ : ∃ n, N = n + 1 := ⟨N - 1, by omega⟩
  have e1 := boardOk_N g lf n (by omega) h r c
  suffices this : W (CL g lf (n + 1) fn_impl_freeBoard [.int .i64 r, .int .i64 c] h) fun q h' => OwnSl h.length h' q (if boardB r c = true then freeL r.toNat c.toNat else []) ∧ Keep h.length h h' by
    obtain ⟨q, h', e, o, k⟩ := this
    exact ⟨q, h', e, o, k⟩
  rw [impl_freeBoard.call_eq]
  unfold impl_freeBoard.main
  simp only [env_C, env_bin, env_un, env_make]
  cases hb : boardB r c with
  | false =>
    rw [hb] at e1
    repeat (first | with_reducible refine wT ?_ | with_reducible refine wnF ?_ | with_reducible refine wrN ?_ | with_reducible refine wbd (by assumption) ?_ | dsimp only)
    exact W.ret ⟨OwnSl.nil _ _, Keep.refl _ _⟩
  | true =>
    rw [hb] at e1
    obtain ⟨R, C, rfl, rfl, hB⟩ := boardB_of hb
    obtain ⟨h1, h2, h3, h4, h9⟩ := id hB
    repeat (first | with_reducible refine wF ?_ | with_reducible refine wnT ?_ | with_reducible refine wbd (by assumption) ?_ | (refine wmake (by omega) fun q h1 o1 k1 => ?_) | with_reducible refine wmulN (by omega) ?_ | with_reducible refine wresO (by assumption) ?_ | dsimp only | simp only [env_C, env_Y, env_g, env_lf, env_pick, env_alloc, env_box, env_build, env_buildSlice, env_load, env_store, env_ptr, env_bin, env_un, env_conv, env_make, env_slice, env_fieldAddr, env_field, env_indexAddr, env_index, env_extract, env_len, env_append, env_max, env_min, env_makeMap, env_lookup, env_update, env_clos, env_bstr, env_ext])
    exact W.ret ⟨o1, k1⟩

/-! ### partners -/
/-! ### pairs that are shared -/
end Go.Proofs.YtpaehbfknlpkbabDoor

/- What the program's functions of chapter 11 compute: names of cells, records, their ends and texts. -/
set_option maxRecDepth 20000
namespace Go.Proofs.YtpaehbfknlpkbabDoor
open Go Go.Ip G

/-! ### small numbers as texts -/
variable (g : Nat → PV) (lf n : Nat)

/-! ### names of cells -/
/-! ### the end of a record -/
theorem rec_none {r c : Int} {ms : List Int} (hr : recB r c ms = false) : recTurn r c ms = 0 ∧ recEnd r c ms = [] := by
  refine ⟨by unfold recTurn; rw [hr]; rfl, ?_⟩
  unfold recEnd; split
  · rename_i hb
    unfold recB at hr
    rw [hb, Bool.true_and] at hr
    cases hq : playTo r c (startL r c) 1 ms with
    | none => rfl
    | some y => rw [hq] at hr; cases hr
  · rfl
theorem endOf_W (hlf : 1000 < lf) (r c : Int) {ms : List Int} {p : PV} {h : PHeap} (ht : TabOk g h) (hp : IntSl .i64 h p ms) (hl : ms.length ≤ 2 ^ 35) (hf : ms.length < lf) (N : Nat) (hN : 41 ≤ N) :
    W (CL g lf N fn_impl_EndOf [.int .i64 r, .int .i64 c, p] h) fun v h' => ∃ q, v = .tup [q, .int .i64 (recTurn r c ms)] ∧ OwnSl h.length h' q (recEnd r c ms) ∧ Keep h.length h h' := by
  obtain ⟨n, rfl⟩ : ∃ n, N = n + 1 := ⟨N - 1, by omega⟩
  have e1 := boardOk_N g lf n (by omega) h r c
  rw [impl_EndOf.call_eq]
  unfold impl_EndOf.main
  simp only [env_C, env_lf, env_un, env_len]
  cases hb : boardB r c with
  | false =>
    rw [hb] at e1
    obtain ⟨t0, x0⟩ := rec_none (r := r) (c := c) (ms := ms) (by unfold recB; rw [hb]; rfl)
    rw [t0, x0]
    repeat (first | with_reducible refine wT ?_ | with_reducible refine wnF ?_ | with_reducible refine wrI ?_ | with_reducible refine wrN ?_ | with_reducible refine wbd (by assumption) ?_ | dsimp only)
    exact W.ret ⟨_, rfl, OwnSl.nil _ _, Keep.refl _ _⟩
  | true =>
    rw [hb] at e1
    obtain ⟨q, h1, e2, o1, k1⟩ := freeBoard_W g lf n (by omega) h r c
    obtain ⟨R, C, rfl, rfl, hB⟩ := boardB_nat hb
    obtain ⟨b1, b2, b3, b4, b9⟩ := id hB
    rw [hb, if_pos rfl, show freeL (R : Int).toNat (C : Int).toNat = startL (R : Int) (C : Int) from (start_nat R C).symm] at o1
    have hlen := hp.len'
    repeat (first | with_reducible refine wF ?_ | with_reducible refine wnT ?_ | with_reducible refine wbd (by assumption) ?_ | dsimp only)
    refine loopW (fun m st => ∃ (k T : Nat) (ys : List Int) (q' : PV) (h2 : PHeap), st = impl_EndOf.st0 (.int .i64 (R : Int)) (.int .i64 (C : Int)) q' (.int .i64 (T : Int)) p (.int .i64 (ms.length : Int)) (.int .i64 (k : Int)) h2 ∧ k + m = ms.length ∧ (T = 1 ∨ T = 2) ∧ ((T : Int) = turnAt 1 k) ∧
      playTo (R : Int) (C : Int) (startL (R : Int) (C : Int)) 1 (ms.take k) = some ys ∧ OwnSl h.length h2 q' ys ∧ Keep h.length h h2) ?_ lf ms.length _ hf ⟨0, 1, _, q, h1, rfl, by omega, .inl rfl, rfl, rfl, o1, k1⟩
    rintro n1 m1 st ⟨k, T, ys, q', h2, rfl, hkm, hT, htu, hpl, o2, k2⟩ next
    have hyl : ys.length = R * C := by rw [playTo_length _ _ _ _ _ _ hpl, start_nat, List.length_replicate]
    have hp2 := hp.keep k2
    have heq : playTo (R : Int) (C : Int) (startL (R : Int) (C : Int)) 1 ms = playTo (R : Int) (C : Int) ys (T : Int) (ms.drop k) := by
      have := playTo_append (R : Int) (C : Int) (ms.take k) (ms.drop k) (startL (R : Int) (C : Int)) 1
      rw [List.take_append_drop, hpl, List.length_take, Nat.min_eq_left (by omega)] at this
      rw [htu]; exact this
    rw [impl_EndOf.body0_eq]
    unfold impl_EndOf.body0
    simp only [env_C, env_load, env_bin, env_un, env_indexAddr, env_extract]
    cases m1 with
    | zero =>
      obtain rfl : k = ms.length := by omega
      rw [List.take_length] at hpl
      have hr : recB (R : Int) (C : Int) ms = true := by unfold recB; rw [hb, hpl]; rfl
      have ht0 : recTurn (R : Int) (C : Int) ms = (T : Int) := by unfold recTurn; rw [hr, htu]; rfl
      have hx0 : recEnd (R : Int) (C : Int) ms = ys := by unfold recEnd; rw [hb, hpl]; rfl
      rw [ht0, hx0]
      repeat (first | with_reducible refine wF ?_ | with_reducible refine wrI ?_ | (with_reducible refine wresO (by assumption) ?_) | with_reducible refine wlssF (by omega) ?_ | rw [kLoop_exit] | rw [impl_EndOf.after0_se0_0_1_8_9_21_22_23_24])
      exact W.ret ⟨_, rfl, o2, k2⟩
    | succ m1 =>
      have hk : k < ms.length := by omega
      have hd : ms.drop k = ms[k] :: ms.drop (k + 1) := List.drop_eq_getElem_cons hk
      obtain ⟨q3, h3, e3, o3, k3⟩ := playedOk g lf hlf n (by omega) (R : Int) (C : Int) ms[k] (T : Int) (ht.keep k2) o2.int (by omega) (by omega)
      rw [hd] at heq; simp only [playTo] at heq
      cases hmv : moveL (R : Int) (C : Int) ys ms[k] (T : Int) with
      | false =>
        rw [hmv] at e3
        rw [hmv, if_neg (by decide)] at heq
        obtain ⟨t0, x0⟩ := rec_none (r := (R : Int)) (c := (C : Int)) (ms := ms) (by unfold recB; rw [heq]; simp)
        rw [t0, x0]
        repeat (first | with_reducible refine wT ?_ | with_reducible refine wnF ?_ | with_reducible refine wrI ?_ | with_reducible refine wrN ?_ | with_reducible refine wx0 ?_ | with_reducible refine wx1 ?_ | with_reducible refine wbd (by assumption) ?_ | (refine wat hp2 hk fun a ea => ?_) | with_reducible refine wlssT (by omega) ?_ | rw [kLoop_ret] | rw [impl_EndOf.K0_ret] | rw [impl_EndOf.top_sr_6_7] | dsimp only)
        exact W.ret ⟨_, rfl, OwnSl.nil _ _, k2.trans (k3.mono k2.1)⟩
      | true =>
        rw [hmv] at e3
        rw [hmv, if_pos rfl] at heq
        have ho := exchanged_W g lf n (by omega) h3 hT
        unfold playedL at o3
        rw [hmv, if_pos rfl] at o3
        repeat (first | with_reducible refine wT ?_ | with_reducible refine wF ?_ | with_reducible refine wnT ?_ | with_reducible refine wx0 ?_ | with_reducible refine wx1 ?_ | with_reducible refine wbd (by assumption) ?_ | (refine wat hp2 hk fun a ea => ?_) | with_reducible refine wadd1 (by omega) ?_ | with_reducible refine wlssT (by omega) ?_ | dsimp only)
        refine next _ _ (Nat.lt_succ_self _) ⟨k + 1, 3 - T, _, q3, h3, rfl, by omega, by omega, ?_, ?_, o3.mono k2.1, k2.trans (k3.mono k2.1)⟩
        · rw [← turnAt_succ]
          have : ((3 - T : Nat) : Int) = 3 - turnAt 1 k := by rw [← htu]; omega
          rw [this]; unfold turnAt; split <;> rfl
        · rw [List.take_succ_eq_append_getElem hk, playTo_append, hpl, List.length_take, Nat.min_eq_left (by omega)]
          show playTo (R : Int) (C : Int) ys (turnAt 1 k) [ms[k]] = _
          rw [← htu]
          simp only [playTo]
          rw [hmv, if_pos rfl]
theorem endOfOk (hlf : 1000 < lf) : EndOfOk g lf := fun N hN r c ms p h ht hp hl hf => by
  obtain ⟨_, h', e, q, rfl, o, k⟩ := endOf_W g lf hlf r c ht hp hl hf N (by omega)
  exact ⟨q, h', e, o, k⟩
theorem recTurn_ok (r c : Int) (ms : List Int) : (recTurn r c ms = 0) ↔ recB r c ms = false := by
  unfold recTurn
  cases h : recB r c ms with
  | false => simp
  | true =>
    rw [if_pos rfl]
    have := turnAt_player (t := 1) (.inl rfl) ms.length
    constructor
    · intro e; omega
    · intro e; cases e
theorem recordOk_W (hlf : 1000 < lf) (r c : Int) {ms : List Int} {p : PV} {h : PHeap} (ht : TabOk g h) (hp : IntSl .i64 h p ms) (hl : ms.length ≤ 2 ^ 35) (hf : ms.length < lf) (N : Nat) (hN : 42 ≤ N) :
    W (CL g lf N fn_impl_RecordOk [.int .i64 r, .int .i64 c, p] h) fun v h' => v = .bool (recB r c ms) ∧ Keep h.length h h' := by
  obtain ⟨n, rfl⟩ : ∃ n, N = n + 1 := ⟨N - 1, by omega⟩
  rw [impl_RecordOk.call_eq]
  unfold impl_RecordOk.main
  simp only [env_C, env_bin, env_extract]
  refine wcall (endOf_W g lf hlf r c ht hp hl hf n (by omega)) fun v h1 ⟨q, hv, o1, k1⟩ => ?_
  subst hv
  have h0 := recTurn_ok r c ms
  cases hr : recB r c ms with
  | false =>
    have := h0.2 hr
    repeat (first | with_reducible refine wrB ?_ | with_reducible refine wx0 ?_ | with_reducible refine wx1 ?_ | with_reducible refine wneqF (by omega) ?_ | dsimp only)
    exact W.ret ⟨rfl, k1⟩
  | true =>
    have : ¬ recTurn r c ms = 0 := fun e => by rw [h0.1 e] at hr; cases hr
    repeat (first | with_reducible refine wrB ?_ | with_reducible refine wx0 ?_ | with_reducible refine wx1 ?_ | with_reducible refine wneqT (by omega) ?_ | dsimp only)
    exact W.ret ⟨rfl, k1⟩
theorem recordOkOk (hlf : 1000 < lf) : RecordOkOk g lf := fun N hN r c ms p h ht hp hl hf => by
  obtain ⟨_, h', e, rfl, k⟩ := recordOk_W g lf hlf r c ht hp hl hf N (by omega)
  exact ⟨h', e, k⟩

/-! ### texts of records -/
end Go.Proofs.YtpaehbfknlpkbabDoor

/- What the program's functions of chapter 11 compute, on: slips, and the best record. -/
set_option maxRecDepth 20000
namespace Go.Proofs.YtpaehbfknlpkbabDoor
open Go Go.Ip G

theorem wheld1 {Q : PV → PHeap → Prop} {b u : Bool} {x y : Res} (hb : b = u) (hx : W x Q) : W ((wantV (.bool b) u).bind fun v => bif v then x else y) Q := by
  subst hb; simpa [wantV] using hx
theorem wheld0 {Q : PV → PHeap → Prop} {b u : Bool} {x y : Res} (hb : b = !u) (hy : W y Q) : W ((wantV (.bool b) u).bind fun v => bif v then x else y) Q := by
  subst hb; cases u <;> simpa [wantV] using hy

/-- A list that grows, in an object that is none of some others. -/
def LsAt (b : Nat) (ex : List Nat) (h : PHeap) (q : PV) (ys : List Int) : Prop := (q = .nilsl ∧ ys = []) ∨ ∃ i, i ∉ ex ∧ b ≤ i ∧ q = .sl i 0 ys.length ∧ At h i (ys.map (.int .i64))
theorem LsAt.keep {b : Nat} {ex : List Nat} {h h' : PHeap} {q : PV} {ys : List Int} (o : LsAt b ex h q ys) (k : Keep h.length h h') : LsAt b ex h' q ys := by
  rcases o with o | ⟨i, h1, h2, h3, h4⟩
  · exact .inl o
  · exact .inr ⟨i, h1, h2, h3, h4.keep k⟩
theorem LsAt.kb {b j : Nat} {ex : List Nat} {h h' : PHeap} {q : PV} {ys : List Int} (o : LsAt b ex h q ys) (k : KB j h h') (hj : j ∈ ex) : LsAt b ex h' q ys := by
  rcases o with o | ⟨i, h1, h2, h3, h4⟩
  · exact .inl o
  · exact .inr ⟨i, h1, h2, h3, h4.kb k fun e => h1 (e ▸ hj)⟩
theorem LsAt.more {b j : Nat} {ex : List Nat} {h h1 h2 : PHeap} {q : PV} {ys : List Int} (o : LsAt b ex h q ys) (k : Keep h.length h h1) (k2 : KB j h1 h2) (hj : h.length ≤ j) : LsAt b (j :: ex) h2 q ys := by
  rcases o with o | ⟨i, a1, a2, a3, a4⟩
  · exact .inl o
  · have hi := a4.lt
    have hne : i ≠ j := by omega
    exact .inr ⟨i, by simp [hne, a1], a2, a3, (a4.keep k).kb k2 hne⟩
theorem LsAt.less {b j : Nat} {ex : List Nat} {h : PHeap} {q : PV} {ys : List Int} (o : LsAt b (j :: ex) h q ys) : LsAt b ex h q ys := by
  rcases o with o | ⟨i, a1, a2⟩
  · exact .inl o
  · exact .inr ⟨i, fun hi => a1 (List.mem_cons_of_mem _ hi), a2⟩
theorem LsAt.own {b : Nat} {ex : List Nat} {h : PHeap} {q : PV} {ys : List Int} (o : LsAt b ex h q ys) : OwnSl b h q ys := by
  rcases o with ⟨rfl, rfl⟩ | ⟨i, h1, h2, h3, h4⟩
  · exact OwnSl.nil _ _
  · exact SlAt.own (i := i) (.inr ⟨h3, h4⟩) h2
theorem wapL {Q : PV → PHeap → Prop} {b : Nat} {ex : List Nat} {h : PHeap} {q : PV} {ys : List Int} (o : LsAt b ex h q ys) (hb : b ≤ h.length) (hx : ∀ j ∈ ex, j < h.length) {x : Int} (hl : ys.length + 1 ≤ 2 ^ 36) {F : PV × PHeap → Res}
    (hf : ∀ p' h' i, LsAt b ex h' p' (ys ++ [x]) → KB i h h' → i ∉ ex → b ≤ i → W (F (p', h')) Q) :
    W ((buildSliceP Tryd.prog 23 1 [(0, .int .i64 x)] h).bind fun v => (appendP Tryd.prog 23 23 q v.1 v.2).bind F) Q := by
  have made : ∀ {p' h' j}, SlAt j h' p' (ys ++ [x]) → h.length ≤ j → LsAt b ex h' p' (ys ++ [x]) := fun {p' h' j} sl lj => by
    rcases sl with ⟨_, e⟩ | ⟨e1, e2⟩
    · simp at e
    · exact .inr ⟨j, fun hj => by have := hx j hj; omega, by omega, e1, e2⟩
  rcases o with ⟨rfl, rfl⟩ | ⟨i, h1, h2, rfl, h3⟩
  · exact wapS (i := h.length) (.inl ⟨rfl, rfl⟩) hl fun p' h' j sl k lj => hf p' h' h.length (made sl lj) k (fun hj => by have := hx _ hj; omega) hb
  · exact wapS (i := i) (.inr ⟨rfl, h3⟩) hl fun p' h' j sl k lj => hf p' h' i (made sl lj) k h1 h2
theorem wresL {Q : PV → PHeap → Prop} {b : Nat} {ex : List Nat} {h : PHeap} {q : PV} {ys : List Int} (o : LsAt b ex h q ys) {f : PV → Res} (hf : W (f q) Q) : W ((resV q).bind f) Q := wbd o.own.res hf

variable (g : Nat → PV) (lf n : Nat)

theorem smallOk_N (r c : Int) (N : Nat) (hN : 3 ≤ N) (h : PHeap) : CL g lf N fn_impl_smallOk [.int .i64 r, .int .i64 c] h = some (.bool (boardB r c && decide (r * c ≤ 6)), h) := by
  obtain ⟨n, rfl⟩ : ∃ n, N = n + 1 := ⟨N - 1, by omega⟩
  have e1 := boardOk_N g lf n (by omega) h r c
  suffices this : W (CL g lf (n + 1) fn_impl_smallOk [.int .i64 r, .int .i64 c] h) fun v h' => v = .bool (boardB r c && decide (r * c ≤ 6)) ∧ h' = h by
    obtain ⟨_, _, e, rfl, rfl⟩ := this; exact e
  rw [impl_smallOk.call_eq]
  unfold impl_smallOk.main
  simp only [env_C, env_pick, env_bin]
  cases hb : boardB r c with
  | false =>
    rw [hb] at e1
    repeat (first | with_reducible refine wg0 rfl ?_ | with_reducible refine wpF ?_ | with_reducible refine wsm ?_ | with_reducible refine wrB ?_ | with_reducible refine wbd (by assumption) ?_ | dsimp only)
    exact W.ret ⟨rfl, rfl⟩
  | true =>
    rw [hb] at e1
    obtain ⟨R, C, rfl, rfl, hB⟩ := boardB_nat hb
    obtain ⟨b1, b2, b3, b4, b9⟩ := id hB
    rw [Bool.true_and, ← Int.natCast_mul]
    by_cases h6 : R * C ≤ 6
    · rw [decide_eq_true (show ((R * C : Nat) : Int) ≤ 6 by omega)]
      repeat (first | with_reducible refine wg1 rfl ?_ | with_reducible refine wpT ?_ | with_reducible refine wpv ?_ | with_reducible refine wsm ?_ | with_reducible refine wrB ?_ | with_reducible refine wbd (by assumption) ?_ | with_reducible refine wmulN (by omega) ?_ | with_reducible refine wleqT (by omega) ?_ | dsimp only)
      exact W.ret ⟨rfl, rfl⟩
    · rw [decide_eq_false (show ¬ ((R * C : Nat) : Int) ≤ 6 by omega)]
      repeat (first | with_reducible refine wg1 rfl ?_ | with_reducible refine wpT ?_ | with_reducible refine wpv ?_ | with_reducible refine wsm ?_ | with_reducible refine wrB ?_ | with_reducible refine wbd (by assumption) ?_ | with_reducible refine wmulN (by omega) ?_ | with_reducible refine wleqF (by omega) ?_ | dsimp only)
      exact W.ret ⟨rfl, rfl⟩

set_option maxHeartbeats 2000000 in
theorem slips_W (hbig : Big g) (hlf : 1000 < lf) (r c : Int) {ms : List Int} {p : PV} {h : PHeap} (ht : TabOk g h) (hp : IntSl .i64 h p ms) (hl : ms.length ≤ 2 ^ 35) (hf : ms.length < lf) (N : Nat) (hN : 43 ≤ N) :
    W (CL g lf N fn_impl_SlipsOf [.int .i64 r, .int .i64 c, p] h) fun q h' => OwnSl h.length h' q (slipsL r c ms) ∧ Keep h.length h h' := by
  obtain ⟨n, rfl⟩ : ∃ n, N = n + 1 := ⟨N - 1, by omega⟩
  have e1 := smallOk_N g lf r c n (by omega) h
  rw [impl_SlipsOf.call_eq]
  unfold impl_SlipsOf.main
  simp only [env_C, env_lf, env_pick, env_alloc, env_store, env_un, env_len]
  cases hsm : (boardB r c && decide (r * c ≤ 6)) with
  | false =>
    rw [hsm] at e1
    have he : slipsL r c ms = [] := by
      unfold slipsL
      rw [if_neg]
      rintro ⟨h1, h2⟩
      rw [rec_board h1, decide_eq_true h2] at hsm
      cases hsm
    rw [he]
    repeat (first | with_reducible refine wT ?_ | with_reducible refine wg0 rfl ?_ | with_reducible refine wpT ?_ | with_reducible refine wnF ?_ | with_reducible refine wsm ?_ | with_reducible refine wrN ?_ | with_reducible refine wbd (by assumption) ?_ | dsimp only)
    exact W.ret ⟨OwnSl.nil _ _, Keep.refl _ _⟩
  | true =>
    rw [hsm] at e1
    rw [Bool.and_eq_true, decide_eq_true_iff] at hsm
    obtain ⟨hbb, h6⟩ := hsm
    repeat (first | with_reducible refine wg1 rfl ?_ | with_reducible refine wnT ?_ | with_reducible refine wsm ?_ | with_reducible refine wbd (by assumption) ?_ | dsimp only)
    refine wcall (recordOk_W g lf hlf r c ht hp hl hf n (by omega)) fun v h1 ⟨hv, k1⟩ => ?_
    subst hv
    cases hr : recB r c ms with
    | false =>
      have he : slipsL r c ms = [] := by unfold slipsL; rw [hr, if_neg (by simp)]
      rw [he]
      repeat (first | with_reducible refine wT ?_ | with_reducible refine wg1 rfl ?_ | with_reducible refine wpF ?_ | with_reducible refine wnF ?_ | with_reducible refine wpv ?_ | with_reducible refine wrN ?_ | dsimp only)
      exact W.ret ⟨OwnSl.nil _ _, k1⟩
    | true =>
      have he : slipsL r c ms = slipsF r c (startL r c) 1 0 ms := by unfold slipsL; rw [if_pos ⟨hr, h6⟩]
      rw [he]
      obtain ⟨R, C, rfl, rfl, hB⟩ := boardB_nat hbb
      obtain ⟨b1, b2, b3, b4, b9⟩ := id hB
      have hml := (rec_length hr).2
      repeat (first | with_reducible refine wF ?_ | with_reducible refine wg1 rfl ?_ | with_reducible refine wpF ?_ | with_reducible refine wnT ?_ | with_reducible refine wpv ?_ | dsimp only)
      refine wcall (newSearch_W g lf hB n (by omega) hlf (ht.keep k1).1) fun v h2 ⟨s, m, hv, hs2, k2, l1, l2⟩ => ?_
      subst hv
      have kk2 := k1.trans (k2.mono k1.1)
      obtain ⟨q3, h3, e3, o3, k3⟩ := freeBoard_W g lf n (by omega) h2 (R : Int) (C : Int)
      rw [hbb, if_pos rfl, show freeL (R : Int).toNat (C : Int).toNat = startL (R : Int) (C : Int) from (start_nat R C).symm] at o3
      have kk3 := kk2.trans (k3.mono kk2.1)
      have hs3 := hs2.keep k3
      have hsl : (startL (R : Int) (C : Int)).length = R * C := by rw [start_nat, List.length_replicate]
      repeat (first | with_reducible refine wbd (by assumption) ?_ | dsimp only)
      refine wcall (standingOf_W g lf o3.int (by omega) 1 n (by omega) hlf) fun v h4 ⟨hv, k4⟩ => ?_
      subst hv
      have kk4 := kk3.trans (k4.mono kk3.1)
      have hs4 := hs3.keep k4
      repeat (first | dsimp only)
      refine walS fun h5 id o5 k5 l5 => ?_
      dsimp only at k5 l5 ⊢
      refine wstS o5 fun h6 o6 k6 => ?_
      have hs5 := hs4.keep k5
      have d1 : s ≠ id := by have := hs4.1.lt; omega
      have d2 : m ≠ id := by have := hs4.lt; omega
      have hs6 := hs5.kbo k6 d1 d2
      have d3 : h.length ≤ id := Nat.le_trans kk4.1 l5
      have l1' : h.length ≤ s := Nat.le_trans k1.1 l1
      have l2' : h.length ≤ m := Nat.le_trans k1.1 l2
      have kk6 := (kk4.trans (k5.mono kk4.1)).kbs (Nat.le_refl _) k6 d3
      have hlen := hp.len'
      have hb0 : posB (R : Int) (C : Int) (startL (R : Int) (C : Int)) = true := start_pos hbb
      obtain ⟨R', C', hS0⟩ := sides_of hb0
      have hS0c := hS0
      obtain ⟨eR, eC, _⟩ := hS0c
      obtain rfl : R = R' := by omega
      obtain rfl : C = C' := by omega
      have hpl0 : (playTo (R : Int) (C : Int) (startL (R : Int) (C : Int)) 1 ms).isSome = true := by unfold recB at hr; rw [Bool.and_eq_true] at hr; exact hr.2
      generalize startL (R : Int) (C : Int) = x0 at *
      repeat (first | with_reducible refine wbd (by assumption) ?_)
      refine loopW (fun m' st => ∃ (k U : Nat) (zs ys : List Int) (q : PV) (h7 : PHeap), st = impl_SlipsOf.st0 (.ptr s 0) (.ptr id 0) q p (.int .i64 (ms.length : Int)) (.int .i64 (k : Int)) h7 ∧ k + m' = ms.length ∧ posB (R : Int) (C : Int) zs = true ∧ Sides (R : Int) (C : Int) R C zs ∧ (U = 1 ∨ U = 2) ∧
        (playTo (R : Int) (C : Int) zs (U : Int) (ms.drop k)).isSome = true ∧ At h7 id (stC (setL zs 0) (setL zs 1) (setL zs 2) U) ∧ Sch R C h7 s m ∧ LsAt h.length [s, m, id] h7 q ys ∧ ys.length ≤ k ∧ ys ++ slipsF (R : Int) (C : Int) zs (U : Int) k (ms.drop k) = slipsF (R : Int) (C : Int) x0 1 0 ms ∧ Keep h.length h h7) ?_ lf ms.length _ hf
        ⟨0, 1, x0, [], .nilsl, h6, rfl, by omega, hb0, hS0, .inl rfl, hpl0, o6, hs6, .inl ⟨rfl, rfl⟩, by simp, rfl, kk6⟩
      clear hS0 hb0 hpl0 o6 hs6 kk6 o5 k5 k6 hs5 hs4 hs3 hs2
      rintro n1 m1 st ⟨k, U, zs, ys, q, h7, rfl, hkm, hb, hS, hU, hpl, o7, hs7, ls7, hyl, hfl, kk7⟩ next
      rw [impl_SlipsOf.body0_eq]
      unfold impl_SlipsOf.body0
      simp only [env_C, env_pick, env_alloc, env_buildSlice, env_load, env_store, env_bin, env_fieldAddr, env_indexAddr, env_append]
      cases m1 with
      | zero =>
        obtain rfl : k = ms.length := by omega
        rw [List.drop_length] at hfl
        have hys : ys = slipsF (R : Int) (C : Int) x0 1 0 ms := by rw [← hfl, slipsF, List.append_nil]
        repeat (first | with_reducible refine wF ?_ | (with_reducible refine wresL ls7 ?_) | with_reducible refine wlssF (by omega) ?_ | rw [kLoop_exit] | rw [impl_SlipsOf.after0_se0_7_8_9_31_32_33_34])
        exact W.ret ⟨hys ▸ ls7.own, kk7⟩
      | succ m1 =>
        have hk : k < ms.length := by omega
        have hd : ms.drop k = ms[k] :: ms.drop (k + 1) := List.drop_eq_getElem_cons hk
        rw [hd] at hpl hfl
        simp only [playTo] at hpl
        cases hmv : moveL (R : Int) (C : Int) zs ms[k] (U : Int) with
        | false => rw [hmv, if_neg (by decide)] at hpl; cases hpl
        | true =>
        rw [hmv, if_pos rfl] at hpl
        obtain ⟨K, hK, hK0, hKl⟩ := move_cell hmv
        have e3 : (3 : Int) - (U : Int) = ((3 - U : Nat) : Int) := by omega
        have hU' : 3 - U = 1 ∨ 3 - U = 2 := by omega
        rw [slips_step] at hfl
        rw [hK, Int.toNat_natCast, e3] at hpl hfl
        have hzl : zs.length = R * C := hS.2.2.2.2.2.2.2.1
        have hf9 := set_lt9 hS 0
        have ha9 := set_lt9 hS 1
        have hb9 := set_lt9 hS 2
        have hb2 := pos_set hb hU K
        have hS2 := sides_set hb hS (k := K) hU
        obtain ⟨q1, q2⟩ := set_putA hU hK0
        have q0 := (set_more hS hU hK0).2.1
        have w1 := winL_eq hb hU
        have w2 := winL_eq hb2 hU'
        rw [w1, w2] at hfl
        refine wlssT (by omega) ?_
        refine wT ?_
        refine wat (hp.keep kk7) hk fun a ea => ?_
        refine wbd ea ?_
        rw [hK]
        refine wbd (ldS o7) ?_
        refine wcall (after_W g lf hf9 ha9 hb9 (by omega) hU n (by omega) h7) fun v h8 ⟨hv, k8⟩ => ?_
        subst hv
        have kk8 := kk7.trans (k8.mono kk7.1)
        refine walS fun h9 id2 o9 k9 l9 => ?_
        dsimp only at k9 l9 ⊢
        refine wstS o9 fun h10 n10 k10 => ?_
        have k79 : Keep h7.length h7 h9 := k8.trans (k9.mono k8.1)
        have l79 : h7.length ≤ id2 := Nat.le_trans k8.1 l9
        have f1 : id ≠ id2 := by have := o7.lt; omega
        have f2 : s ≠ id2 := by have := hs7.1.lt; omega
        have f3 : m ≠ id2 := by have := hs7.lt; omega
        have ls10 := ls7.more k79 k10 l79
        have o10 := (o7.keep k79).kb k10 f1
        have hs10 := (hs7.keep k79).kbo k10 f2 f3
        have kk10 := (kk8.trans (k9.mono kk8.1)).kbs (Nat.le_refl _) k10 (Nat.le_trans kk7.1 l79)
        rw [← q0, ← q1, ← q2] at n10
        have ht10 := ht.2.keep kk10
        repeat (first | (with_reducible refine wbd (fSt1 _) ?_) | (with_reducible refine wbd (ld1 (by assumption) rfl) ?_) | (with_reducible refine wbd (ldS (by assumption)) ?_))
        refine wcall (sWinner_W g lf hB hbig hlf 9 _ _ _ _ n h10 (Nat.le_trans (fr_le _ _ _) b9) (stands_of hS hU) (by omega) hs10 ht10) fun v h11 ⟨hv, hs11, k11⟩ => ?_
        subst hv
        have o11 := o10.kb k11 (hs10.ne o10)
        have n11 := n10.kb k11 (hs10.ne n10)
        have ls11 := ls10.kb k11 (by simp)
        have kk11 := kk10.kbs (Nat.le_refl _) k11 l2'
        have ht11 := ht.2.keep kk11
        generalize hW1 : winN R C (setL zs 1) (setL zs 2) U = W1 at hfl ⊢
        generalize hW2 : winN R C (setL (zs.set K (U : Int)) 1) (setL (zs.set K (U : Int)) 2) (3 - U) = W2 at hfl
        repeat (first | with_reducible refine wck plain_int ?_ | (with_reducible refine wbd (ld1 (by assumption) rfl) ?_) | (with_reducible refine wbd (ldS (by assumption)) ?_) | (with_reducible refine wck plainS ?_) | dsimp only)
        refine weql (fun ew => ?_) (fun ew => ?_)
        · repeat (first | with_reducible refine wg1 rfl ?_ | with_reducible refine wpv ?_ | with_reducible refine wsm ?_ | (with_reducible refine wbd (fSt1 _) ?_) | (with_reducible refine wbd (ld1 (by assumption) rfl) ?_) | (with_reducible refine wbd (ldS (by assumption)) ?_) | (with_reducible refine wheld1 rfl ?_) | dsimp only)
          refine wcall (sWinner_W g lf hB hbig hlf 9 _ _ _ _ n h11 (Nat.le_trans (fr_le _ _ _) b9) (stands_of hS2 hU') (by omega) hs11 ht11) fun v h12 ⟨hv, hs12, k12⟩ => ?_
          subst hv
          rw [hW2]
          have o12 := o11.kb k12 (hs11.ne o11)
          have n12 := n11.kb k12 (hs11.ne n11)
          have ls12 := ls11.kb k12 (by simp)
          have kk12 := kk11.kbs (Nat.le_refl _) k12 l2'
          repeat (first | with_reducible refine wg1 rfl ?_ | with_reducible refine wpv ?_ | with_reducible refine wck plain_int ?_ | (with_reducible refine wbd (ld1 (by assumption) rfl) ?_) | (with_reducible refine wbd (ldS (by assumption)) ?_) | (with_reducible refine wck plainS ?_) | dsimp only)
          refine wneq (fun ev => ?_) (fun ev => ?_)
          · rw [if_pos ⟨ew, ev⟩] at hfl
            repeat (first | with_reducible refine wT ?_ | with_reducible refine wpT ?_)
            refine wapL ls12 kk12.1 (fun j hj => ?_) (by omega) fun q' h13 i ls13 k13 hi hbi => ?_
            · simp only [List.mem_cons, List.not_mem_nil, or_false] at hj
              rcases hj with rfl | rfl | rfl | rfl
              · exact n12.lt
              · exact hs12.1.lt
              · exact hs12.lt
              · exact o12.lt
            · simp only [List.mem_cons, List.not_mem_nil, or_false, not_or] at hi
              obtain ⟨g1, g2, g3, g4⟩ := hi
              have o13 := o12.kb k13 (Ne.symm g4)
              have n13 := n12.kb k13 (Ne.symm g1)
              have hs13 := hs12.kbo k13 (Ne.symm g2) (Ne.symm g3)
              have kk13 := kk12.kbs (Nat.le_refl _) k13 hbi
              refine wbd (ldS n13) ?_
              refine wstS o13 fun h14 o14 k14 => ?_
              repeat (first | with_reducible refine wadd1 (by omega) ?_ | dsimp only)
              refine next _ _ (Nat.lt_succ_self _) ⟨k + 1, 3 - U, zs.set K (U : Int), ys ++ [(k : Int)], q', h14, rfl, by omega, hb2, hS2, hU', hpl, o14, hs13.kbo k14 d1 d2, ls13.less.kb k14 (by simp), by rw [List.length_append]; simp; omega, ?_, kk13.kbs (Nat.le_refl _) k14 d3⟩
              rw [List.append_assoc]; exact hfl
          · rw [if_neg (fun a => a.2 ev)] at hfl
            repeat (first | with_reducible refine wF ?_ | with_reducible refine wpT ?_ | (with_reducible refine wbd (ldS (by assumption)) ?_))
            refine wstS o12 fun h14 o14 k14 => ?_
            repeat (first | with_reducible refine wadd1 (by omega) ?_)
            refine next _ _ (Nat.lt_succ_self _) ⟨k + 1, 3 - U, zs.set K (U : Int), ys, q, h14, rfl, by omega, hb2, hS2, hU', hpl, o14, hs12.kbo k14 d1 d2, ls12.less.kb k14 (by simp), by omega, hfl, kk12.kbs (Nat.le_refl _) k14 d3⟩
        · rw [if_neg (fun a => ew a.1)] at hfl
          repeat (first | with_reducible refine wF ?_ | with_reducible refine wg0 rfl ?_ | with_reducible refine wpF ?_ | with_reducible refine wsm ?_ | with_reducible refine wck plain_int ?_ | (with_reducible refine wbd (ld1 (by assumption) rfl) ?_) | (with_reducible refine wbd (ldS (by assumption)) ?_) | (with_reducible refine wck plainS ?_) | (with_reducible refine wheld0 rfl ?_) | dsimp only)
          refine wstS o11 fun h14 o14 k14 => ?_
          repeat (first | with_reducible refine wadd1 (by omega) ?_)
          refine next _ _ (Nat.lt_succ_self _) ⟨k + 1, 3 - U, zs.set K (U : Int), ys, q, h14, rfl, by omega, hb2, hS2, hU', hpl, o14, hs11.kbo k14 d1 d2, ls11.less.kb k14 (by simp), by omega, hfl, kk11.kbs (Nat.le_refl _) k14 d3⟩
theorem slipsOk (hbig : Big g) (hlf : 1000 < lf) : SlipsOk g lf := fun N hN r c ms p h ht hp hl hf => by
  obtain ⟨q, h', e, o, k⟩ := slips_W g lf hbig hlf r c ht hp hl hf N (by omega)
  exact ⟨q, h', e, o, k⟩

theorem bestOk (hbig : Big g) (hlf : 1000 < lf) : BestOk g lf := fun N hN r c h ht => by
  obtain ⟨n, rfl⟩ : ∃ n, N = n + 1 := ⟨N - 1, by omega⟩
  suffices this : W (CL g lf (n + 1) fn_impl_BestRecord [.int .i64 r, .int .i64 c] h) fun q h' => OwnSl h.length h' q (bestL r c) ∧ Keep h.length h h' by
    obtain ⟨q, h', e, o, k⟩ := this
    exact ⟨q, h', e, o, k⟩
  have e1 := smallOk_N g lf r c n (by omega) h
  rw [impl_BestRecord.call_eq]
  unfold impl_BestRecord.main
  simp only [env_C, env_un]
  cases hsm : (boardB r c && decide (r * c ≤ 6)) with
  | false =>
    rw [hsm] at e1
    have he : bestL r c = [] := by
      unfold bestL
      rw [if_neg]
      rintro ⟨h1, h2⟩
      rw [h1, decide_eq_true h2] at hsm
      cases hsm
    rw [he]
    repeat (first | with_reducible refine wT ?_ | with_reducible refine wnF ?_ | with_reducible refine wrN ?_ | with_reducible refine wbd (by assumption) ?_ | dsimp only)
    exact W.ret ⟨OwnSl.nil _ _, Keep.refl _ _⟩
  | true =>
    rw [hsm] at e1
    rw [Bool.and_eq_true, decide_eq_true_iff] at hsm
    have he : bestL r c = lineL r c (startL r c) 1 := by unfold bestL; rw [if_pos hsm]
    rw [he]
    obtain ⟨q, h1, e2, o1, k1⟩ := freeBoard_W g lf n (by omega) h r c
    have hst : (if boardB r c = true then freeL r.toNat c.toNat else []) = startL r c := by
      rw [if_pos hsm.1]
      obtain ⟨R, C, rfl, rfl, hB⟩ := boardB_nat hsm.1
      exact (start_nat R C).symm
    rw [hst] at o1
    have hl9 : (startL r c).length ≤ 9 := by
      obtain ⟨R, C, rfl, rfl, hB⟩ := boardB_nat hsm.1
      rw [start_nat, List.length_replicate]; exact hB.2.2.2.2
    obtain ⟨q2, h2, e3, o2, k2⟩ := lineOk g lf hbig hlf n (by omega) r c 1 (ht.keep k1) o1.int (by omega) (by omega)
    repeat (first | with_reducible refine wF ?_ | with_reducible refine wnT ?_ | with_reducible refine wbd (by assumption) ?_ | (with_reducible refine wresO o2 ?_) | dsimp only)
    exact W.ret ⟨o2.mono k1.1, k1.trans (k2.mono k1.1)⟩

end Go.Proofs.YtpaehbfknlpkbabDoor

