/- Texts of this seat, in their order, put together by program. -/
import Derived.Test.YtkbnngklbfnkiaaDoorK10
set_option linter.unusedSimpArgs false
set_option linter.unusedVariables false
/- The laws of chapter 3 over what the program's functions are asked to compute: promises 16, 17, 18 and 21. -/
namespace Go.Proofs.YtkbnngklbfnkiaaDoor
open Go Go.Ip G

theorem moveL_swap {r c : Int} {xs : List Int} {k pl : Int} (h1 : 1 ≤ pl) (h2 : pl ≤ 2) : moveL r c xs k (3 - pl) = moveL r c xs k pl := by
  unfold moveL
  rw [show playerB (3 - pl) = true by unfold playerB; exact decide_eq_true (by omega), show playerB pl = true by unfold playerB; exact decide_eq_true (by omega)]
theorem moveL_joins {r c : Int} {xs : List Int} {k pl : Int} (h : moveL r c xs k pl = true) {w : Int} (h1 : 1 ≤ w) (h2 : w ≤ 2) : joinsL r c xs w = false := by
  obtain ⟨K, rfl, _⟩ := moveL_cell h
  have := moveL_iff.1 h
  have : w = 1 ∨ w = 2 := by omega
  rcases this with rfl | rfl
  · exact (moveL_iff.1 h).2.2.2.1
  · exact (moveL_iff.1 h).2.2.2.2
theorem count_set {xs : List Int} {k : Nat} {w : Int} (hk : xs[k]? = some 0) (hw : w ≠ 0) : (xs.set k w).count 0 + 1 = xs.count 0 := by
  have hkl : k < xs.length := (List.getElem?_eq_some_iff.1 hk).1
  have hx : xs[k] = 0 := by rw [List.getElem?_eq_getElem hkl] at hk; exact Option.some.inj hk
  have hmem : 0 < xs.count 0 := List.count_pos_iff.2 (hx ▸ List.getElem_mem hkl)
  rw [List.count_set hkl, hx]
  simp [hw]
  omega

variable (g : Nat → PV) (lf n : Nat)

theorem fnMoveOk_calls (hM : MoveOkOk g lf) (hJ : JoinsOk g lf) {p : PV} {ys : List Int} {h : PHeap} (N : Nat) (hN : 45 ≤ N) (ha : Arg h p ys) (hlf : 1000 < lf) (ht : TabOk g h) :
    ∃ h', CL g lf N fn_laws_FnMoveOk [p] h = some (.bool true, h') := by
  obtain ⟨n, rfl⟩ : ∃ n, N = n + 1 := ⟨N - 1, by omega⟩
  apply W.yes
  rw [laws_FnMoveOk.call_eq]
  unfold laws_FnMoveOk.main
  simp only [env_C, env_pick, env_bin, env_un, env_extract, env_len]
  have hlenp : lenP Tryd.prog 22 p = some (.int .i64 ys.length) := (ha.1 h (Keep.refl _ _)).len tyB
  by_cases hbig : (1048576 : Int) < (ys.length : Int)
  · repeat (first | with_reducible refine wT ?_ | with_reducible refine wrB ?_ | with_reducible refine wbd (by assumption) ?_ | with_reducible refine wgtrT (by omega) ?_)
    exact W.ret rfl
  obtain ⟨r, c, q, xs, k, pl, h1, e1, k1, hq0, hl, hp1, hp2⟩ := drawMoveOk_W g lf n (by omega) ha (by omega)
  have htF := tabF ht k1
  have hq : Fix h1.length h1 q xs := hq0.fix
  have hb1 : h1.length ≤ h1.length := Nat.le_refl _
  have k0 : Keep h1.length h1 h1 := Keep.refl _ _
  have hpos : ∀ h2, Keep h1.length h1 h2 → CL g lf n fn_spec_PositionOk [.int .i64 r, .int .i64 c, q] h2 = some (.bool (posB r c xs), h2) := fun h2 k2 => specPositionOk_N g lf n (by omega) r c (hq h2 k2) (by omega) (by omega)
  have hal : ∀ h2, CL g lf n fn_laws_alive [] h2 = some (.bool true, h2) := fun h2 => alive_calls g lf n (by omega) h2
  have hI : ∀ h2, Keep h1.length h1 h2 → ∃ h', CL g lf n fn_impl_MoveOk [.int .i64 r, .int .i64 c, q, .int .i64 k, .int .i64 pl] h2 = some (.bool (moveL r c xs k pl), h') ∧ Keep h2.length h2 h' := fun h2 k2 => hM n (by omega) r c k pl (htF _ k2) (hq _ k2) (by omega) (by omega)
  have hSp : ∀ h2, Keep h1.length h1 h2 → ∃ h', CL g lf n fn_spec_MoveOk [.int .i64 r, .int .i64 c, q, .int .i64 k, .int .i64 pl] h2 = some (.bool (moveL r c xs k pl), h') ∧ Keep h2.length h2 h' := fun h2 k2 => specMoveOk_calls g lf n (by omega) r c k pl (hq _ k2) (by omega) (by omega) hlf
  cases hm : moveL r c xs k pl with
  | false =>
    rw [hm] at hI hSp
    by_cases hpl : 2 < pl
    · repeat (first | with_reducible refine wT ?_ | with_reducible refine wF ?_ | with_reducible refine wg1 rfl ?_ | with_reducible refine wpT ?_ | with_reducible refine wnF ?_ | with_reducible refine wrB ?_ | with_reducible refine wx0 ?_ | with_reducible refine wx1 ?_ | with_reducible refine wx2 ?_ | with_reducible refine wx3 ?_ | with_reducible refine wx4 ?_ | with_reducible refine wbd (by assumption) ?_ | (with_reducible refine wneqBB ?_) | (with_reducible refine wbd (hal _) ?_) | (with_reducible refine wcv (hI _ (by assumption)) (by assumption) hb1 fun _ _ => ?_) | (with_reducible refine wcv (hSp _ (by assumption)) (by assumption) hb1 fun _ _ => ?_) | with_reducible refine wgtrT (by omega) ?_ | with_reducible refine wgtrF (by omega) ?_ | dsimp only)
      exact W.ret rfl
    · have hO : ∀ h2, Keep h1.length h1 h2 → ∃ h', CL g lf n fn_impl_MoveOk [.int .i64 r, .int .i64 c, q, .int .i64 k, .int .i64 (3 - pl)] h2 = some (.bool false, h') ∧ Keep h2.length h2 h' := fun h2 k2 => by
        have := hM n (by omega) r c k (3 - pl) (htF _ k2) (hq _ k2) (by omega) (by omega)
        rw [moveL_swap hp1 (by omega), hm] at this; exact this
      repeat (first | with_reducible refine wF ?_ | with_reducible refine wg1 rfl ?_ | with_reducible refine wg0 rfl ?_ | with_reducible refine wgu ?_ | with_reducible refine wpT ?_ | with_reducible refine wnF ?_ | with_reducible refine wpv ?_ | with_reducible refine wsm ?_ | with_reducible refine wrB ?_ | with_reducible refine wx0 ?_ | with_reducible refine wx1 ?_ | with_reducible refine wx2 ?_ | with_reducible refine wx3 ?_ | with_reducible refine wx4 ?_ | with_reducible refine wbd (by assumption) ?_ | (with_reducible refine wneqBB ?_) | (with_reducible refine weqlBB ?_) | (with_reducible refine wbd (hal _) ?_) | (with_reducible refine wcv (hI _ (by assumption)) (by assumption) hb1 fun _ _ => ?_) | (with_reducible refine wcv (hSp _ (by assumption)) (by assumption) hb1 fun _ _ => ?_) | (with_reducible refine wcv (hO _ (by assumption)) (by assumption) hb1 fun _ _ => ?_) | with_reducible refine wgtrF (by omega) ?_ | with_reducible refine wsub (by omega) ?_ | dsimp only)
      exact W.ret rfl
  | true =>
    rw [hm] at hI hSp
    have hpl : ¬ 2 < pl := fun hh => by rw [moveL_none (.inr hh)] at hm; cases hm
    have hO : ∀ h2, Keep h1.length h1 h2 → ∃ h', CL g lf n fn_impl_MoveOk [.int .i64 r, .int .i64 c, q, .int .i64 k, .int .i64 (3 - pl)] h2 = some (.bool true, h') ∧ Keep h2.length h2 h' := fun h2 k2 => by
      have := hM n (by omega) r c k (3 - pl) (htF _ k2) (hq _ k2) (by omega) (by omega)
      rw [moveL_swap hp1 (by omega), hm] at this; exact this
    have hJ1 : ∀ w, 1 ≤ w → w ≤ 2 → ∀ h2, Keep h1.length h1 h2 → ∃ h', CL g lf n fn_impl_Joins [.int .i64 r, .int .i64 c, q, .int .i64 w] h2 = some (.bool false, h') ∧ Keep h2.length h2 h' := fun w w1 w2 h2 k2 => by
      have := hJ n (by omega) r c w (htF _ k2) (hq _ k2) (by omega) (by omega)
      rw [moveL_joins hm w1 w2] at this; exact this
    repeat (first | with_reducible refine wF ?_ | with_reducible refine wg1 rfl ?_ | with_reducible refine wpT ?_ | with_reducible refine wpF ?_ | with_reducible refine wnT ?_ | with_reducible refine wnF ?_ | with_reducible refine wpv ?_ | with_reducible refine wsm ?_ | with_reducible refine wrB ?_ | with_reducible refine wx0 ?_ | with_reducible refine wx1 ?_ | with_reducible refine wx2 ?_ | with_reducible refine wx3 ?_ | with_reducible refine wx4 ?_ | with_reducible refine wbd (by assumption) ?_ | (with_reducible refine wneqBB ?_) | (with_reducible refine weqlBB ?_) | (with_reducible refine wbd (hal _) ?_) | (with_reducible refine wcv (hI _ (by assumption)) (by assumption) hb1 fun _ _ => ?_) | (with_reducible refine wcv (hSp _ (by assumption)) (by assumption) hb1 fun _ _ => ?_) | (with_reducible refine wcv (hO _ (by assumption)) (by assumption) hb1 fun _ _ => ?_) | (with_reducible refine wcv (hJ1 _ (by omega) (by omega) _ (by assumption)) (by assumption) hb1 fun _ _ => ?_) | with_reducible refine wgtrF (by omega) ?_ | with_reducible refine wsub (by omega) ?_ | dsimp only)
    exact W.ret rfl

theorem fnPlayed_calls (hM : MoveOkOk g lf) (hPl : PlayedOk g lf) (hJ : JoinsOk g lf) {p : PV} {ys : List Int} {h : PHeap} (N : Nat) (hN : 45 ≤ N) (ha : Arg h p ys) (hlf : 1000 < lf) (ht : TabOk g h) :
    ∃ h', CL g lf N fn_laws_FnPlayed [p] h = some (.bool true, h') := by
  obtain ⟨n, rfl⟩ : ∃ n, N = n + 1 := ⟨N - 1, by omega⟩
  apply W.yes
  rw [laws_FnPlayed.call_eq]
  unfold laws_FnPlayed.main
  simp only [env_C, env_pick, env_bin, env_un, env_extract, env_len]
  have hlenp : lenP Tryd.prog 22 p = some (.int .i64 ys.length) := (ha.1 h (Keep.refl _ _)).len tyB
  by_cases hbig : (1048576 : Int) < (ys.length : Int)
  · repeat (first | with_reducible refine wT ?_ | with_reducible refine wrB ?_ | with_reducible refine wbd (by assumption) ?_ | with_reducible refine wgtrT (by omega) ?_)
    exact W.ret rfl
  obtain ⟨r, c, q, xs, k, pl, h1, e1, k1, hq0, hl, hp1, hp2⟩ := drawPlayed_W g lf n (by omega) ha (by omega)
  have htF := tabF ht k1
  have hq : Fix h1.length h1 q xs := hq0.fix
  have hb1 : h1.length ≤ h1.length := Nat.le_refl _
  have k0 : Keep h1.length h1 h1 := Keep.refl _ _
  have hpos : ∀ h2, Keep h1.length h1 h2 → CL g lf n fn_spec_PositionOk [.int .i64 r, .int .i64 c, q] h2 = some (.bool (posB r c xs), h2) := fun h2 k2 => specPositionOk_N g lf n (by omega) r c (hq h2 k2) (by omega) (by omega)
  have hal : ∀ h2, CL g lf n fn_laws_alive [] h2 = some (.bool true, h2) := fun h2 => alive_calls g lf n (by omega) h2
  obtain ⟨q2, h2, e2, o2, k2⟩ := hPl n (by omega) r c k pl (htF _ k0) (hq _ k0) (by omega) (by omega)
  have hq2 := hq.keep k2
  obtain ⟨q3, h3, e3, o3, k3⟩ := specPlayed_calls g lf n (by omega) r c k pl (hq _ k2) (by omega) (by omega) hlf
  have k13 := k2.trans (k3.mono k2.1)
  have hpll := playedL_length r c xs k pl
  have e4 := sameInts_N g lf n (by omega) (o2.keep k3).int o3.int (by omega) (by omega)
  rw [decide_eq_true rfl] at e4
  have o2' := o2.keep k3
  have f2 : Fix h3.length h3 q2 (playedL r c xs k pl) := o2'.int.fix
  cases hm : moveL r c xs k pl with
  | false =>
    have hp0 : playedL r c xs k pl = [] := by unfold playedL; rw [hm]; rfl
    rw [hm] at e2 e3
    rw [hp0] at o2'
    have hlen := o2'.int.len'
    have hI : ∀ h2, Keep h1.length h1 h2 → ∃ h', CL g lf n fn_impl_MoveOk [.int .i64 r, .int .i64 c, q, .int .i64 k, .int .i64 pl] h2 = some (.bool false, h') ∧ Keep h2.length h2 h' := fun h2 k2 => by
      have := hM n (by omega) r c k pl (htF _ k2) (hq _ k2) (by omega) (by omega)
      rw [hm] at this; exact this
    repeat (first | with_reducible refine wT ?_ | with_reducible refine wF ?_ | with_reducible refine wg1 rfl ?_ | with_reducible refine wpT ?_ | with_reducible refine wpF ?_ | with_reducible refine wnT ?_ | with_reducible refine wnF ?_ | with_reducible refine wpv ?_ | with_reducible refine wsm ?_ | with_reducible refine wrB ?_ | with_reducible refine wx0 ?_ | with_reducible refine wx1 ?_ | with_reducible refine wx2 ?_ | with_reducible refine wx3 ?_ | with_reducible refine wx4 ?_ | with_reducible refine wbd (by assumption) ?_ | (with_reducible refine wneqBB ?_) | (with_reducible refine wbd (hal _) ?_) | (with_reducible refine wcv (hI _ (by assumption)) (by assumption) hb1 fun _ _ => ?_) | (with_reducible refine weqlT rfl ?_) | with_reducible refine wgtrF (by omega) ?_ | dsimp only)
    exact W.ret rfl
  | true =>
    rw [hm] at e2 e3
    obtain ⟨K, rfl, hK⟩ := moveL_cell hm
    rw [playedL_eq hm] at f2 hpll
    obtain ⟨hb, hplB, hk0, hj1, hj2⟩ := moveL_iff.1 hm
    obtain ⟨R, C, hS⟩ := sides_of hb
    obtain ⟨P, rfl, hP⟩ := player_of hplB
    obtain ⟨rfl, rfl, _⟩ := id hS
    have hb2 := pos_set hb hP K
    have hb3 : h3.length ≤ h3.length := Nat.le_refl _
    have k03 : Keep h3.length h3 h3 := Keep.refl _ _
    have hq3 : Fix h3.length h3 q xs := hq.re k13 hb1
    have htF3 : ∀ hh, Keep h3.length h3 hh → TabOk g hh := fun hh kk => htF hh (k13.trans (kk.mono k13.1))
    have hsl : (xs.set K (P : Int)).length = xs.length := List.length_set ..
    have hposI : CL g lf n fn_impl_PositionOk [.int .i64 (R : Int), .int .i64 (C : Int), q2] h3 = some (.bool true, h3) := by
      have := positionOk_N g lf n (by omega) (R : Int) (C : Int) (f2 _ k03) (by omega) (by omega)
      rw [hb2] at this; exact this
    obtain ⟨q4, h4, e4', o4, k4⟩ := cellsOf_calls g lf n (by omega) (R : Int) (C : Int) 0 (f2 _ k03) (by omega) (by omega)
    obtain ⟨q5, h5, e5, o5, k5⟩ := cellsOf_calls g lf n (by omega) (R : Int) (C : Int) 0 (hq3 _ k4) (by omega) (by omega)
    have c1 := cells_count hb2 0
    have c2 := cells_count hb 0
    have c3 := count_set (w := (P : Int)) hk0 (by omega)
    have hle := cellsL_length (R : Int) (C : Int) xs 0
    have hlen4 := o4.int.len'
    have hlen5 := o5.int.len'
    have hjo := joins_other_set hb hP hk0
    have hjf : joinsL (R : Int) (C : Int) xs ((3 - P : Nat) : Int) = false := moveL_joins hm (by omega) (by omega)
    rw [hjf, show ((3 - P : Nat) : Int) = 3 - (P : Int) by omega] at hjo
    obtain ⟨h6, e6, k6⟩ := hJ n (by omega) (R : Int) (C : Int) (3 - (P : Int)) (htF3 _ (k4.trans (k5.mono k4.1))) (f2 _ (k4.trans (k5.mono k4.1))) (by omega) (by omega)
    rw [hjo] at e6
    repeat (first | with_reducible refine wF ?_ | with_reducible refine wg1 rfl ?_ | with_reducible refine wpT ?_ | with_reducible refine wpF ?_ | with_reducible refine wnT ?_ | with_reducible refine wnF ?_ | with_reducible refine wpv ?_ | with_reducible refine wsm ?_ | with_reducible refine wrB ?_ | with_reducible refine wx0 ?_ | with_reducible refine wx1 ?_ | with_reducible refine wx2 ?_ | with_reducible refine wx3 ?_ | with_reducible refine wx4 ?_ | with_reducible refine wbd (by assumption) ?_ | (with_reducible refine wneqBB ?_) | with_reducible refine wadd1 (by omega) ?_ | with_reducible refine wgtrF (by omega) ?_ | with_reducible refine weqlT (by omega) ?_ | with_reducible refine wsub (by omega) ?_ | dsimp only)
    exact W.ret rfl

theorem fnAnswers_calls (hPl : PlayedOk g lf) (hW : WinnerOk g lf) (hWC : WinCellsOk g lf) (hJ : JoinsOk g lf) {p : PV} {ys : List Int} {h : PHeap} (N : Nat) (hN : 45 ≤ N) (ha : Arg h p ys) (hlf : 1000 < lf) (ht : TabOk g h) :
    ∃ h', CL g lf N fn_laws_FnAnswers [p] h = some (.bool true, h') := by
  obtain ⟨n, rfl⟩ : ∃ n, N = n + 1 := ⟨N - 1, by omega⟩
  apply W.yes
  rw [laws_FnAnswers.call_eq]
  unfold laws_FnAnswers.main
  simp only [env_C, env_lf, env_pick, env_bin, env_un, env_extract, env_len]
  have hlenp : lenP Tryd.prog 22 p = some (.int .i64 ys.length) := (ha.1 h (Keep.refl _ _)).len tyB
  by_cases hbig : (1048576 : Int) < (ys.length : Int)
  · repeat (first | with_reducible refine wT ?_ | with_reducible refine wrB ?_ | with_reducible refine wbd (by assumption) ?_ | with_reducible refine wgtrT (by omega) ?_)
    exact W.ret rfl
  obtain ⟨r, c, q, xs, pl, h1, e1, k1, hq0, hl, hp1, hp2⟩ := drawWinningCells_W g lf n (by omega) ha (by omega)
  have htF := tabF ht k1
  have hq : Fix h1.length h1 q xs := hq0.fix
  have hb1 : h1.length ≤ h1.length := Nat.le_refl _
  have k0 : Keep h1.length h1 h1 := Keep.refl _ _
  have hpos : ∀ h2, Keep h1.length h1 h2 → CL g lf n fn_spec_PositionOk [.int .i64 r, .int .i64 c, q] h2 = some (.bool (posB r c xs), h2) := fun h2 k2 => specPositionOk_N g lf n (by omega) r c (hq h2 k2) (by omega) (by omega)
  have hal : ∀ h2, CL g lf n fn_laws_alive [] h2 = some (.bool true, h2) := fun h2 => alive_calls g lf n (by omega) h2
  have hWI : ∀ t h2, Keep h1.length h1 h2 → ∃ h', CL g lf n fn_impl_WinnerOf [.int .i64 r, .int .i64 c, q, .int .i64 t] h2 = some (.int .i64 (winL r c xs t), h') ∧ Keep h2.length h2 h' := fun t h2 k2 => hW n (by omega) r c t (htF _ k2) (hq _ k2) (by omega) (by omega)
  have hCI : ∀ t h2, Keep h1.length h1 h2 → ∃ q' h', CL g lf n fn_impl_WinningCells [.int .i64 r, .int .i64 c, q, .int .i64 t] h2 = some (q', h') ∧ OwnSl h2.length h' q' (winCellsL r c xs t) ∧ Keep h2.length h2 h' := fun t h2 k2 => hWC n (by omega) r c t (htF _ k2) (hq _ k2) (by omega) (by omega)
  have hJI : ∀ t h2, Keep h1.length h1 h2 → ∃ h', CL g lf n fn_impl_Joins [.int .i64 r, .int .i64 c, q, .int .i64 t] h2 = some (.bool (joinsL r c xs t), h') ∧ Keep h2.length h2 h' := fun t h2 k2 => hJ n (by omega) r c t (htF _ k2) (hq _ k2) (by omega) (by omega)
  have none : posB r c xs = false ∨ 2 < pl → ∀ h2, Keep h1.length h1 h2 → ∃ q' h', CL g lf n fn_impl_WinningCells [.int .i64 r, .int .i64 c, q, .int .i64 pl] h2 = some (q', h') ∧ OwnSl h2.length h' q' [] ∧ Keep h2.length h2 h' := fun hh h2 k2 => by
    have := hCI pl h2 k2
    rw [winCellsL_none hh] at this; exact this
  cases hb : posB r c xs with
  | false =>
    have none := none (.inl hb)
    rw [hb] at hpos
    repeat (first | with_reducible refine wT ?_ | with_reducible refine wF ?_ | with_reducible refine wg1 rfl ?_ | with_reducible refine wg0 rfl ?_ | with_reducible refine wpT ?_ | with_reducible refine wnF ?_ | with_reducible refine wsm ?_ | with_reducible refine wrB ?_ | with_reducible refine wx0 ?_ | with_reducible refine wx1 ?_ | with_reducible refine wx2 ?_ | with_reducible refine wx3 ?_ | with_reducible refine wbd (by assumption) ?_ | with_reducible refine wlen (OwnSl.int (by assumption)) ?_ | (with_reducible refine wbd (hpos _ (by assumption)) ?_) | (with_reducible refine wbd (hal _) ?_) | (with_reducible refine wcl (none _ (by assumption)) (by assumption) hb1 fun q4 h4 o4 f4 k4 => ?_) | (with_reducible refine weqlT rfl ?_) | with_reducible refine wgtrF (by omega) ?_ | dsimp only)
    exact W.ret rfl
  | true =>
  rw [hb] at hpos
  by_cases hpl : 2 < pl
  · have none := none (.inr hpl)
    repeat (first | with_reducible refine wT ?_ | with_reducible refine wF ?_ | with_reducible refine wg1 rfl ?_ | with_reducible refine wpT ?_ | with_reducible refine wpF ?_ | with_reducible refine wnT ?_ | with_reducible refine wpv ?_ | with_reducible refine wsm ?_ | with_reducible refine wrB ?_ | with_reducible refine wx0 ?_ | with_reducible refine wx1 ?_ | with_reducible refine wx2 ?_ | with_reducible refine wx3 ?_ | with_reducible refine wbd (by assumption) ?_ | with_reducible refine wlen (OwnSl.int (by assumption)) ?_ | (with_reducible refine wbd (hpos _ (by assumption)) ?_) | (with_reducible refine wbd (hal _) ?_) | (with_reducible refine wcl (none _ (by assumption)) (by assumption) hb1 fun q4 h4 o4 f4 k4 => ?_) | (with_reducible refine weqlT rfl ?_) | with_reducible refine wgtrT (by omega) ?_ | with_reducible refine wgtrF (by omega) ?_ | dsimp only)
    exact W.ret rfl
  obtain ⟨R, C, hS⟩ := sides_of hb
  obtain ⟨T, rfl⟩ := Int.eq_ofNat_of_zero_le (show 0 ≤ pl by omega)
  have hT : T = 1 ∨ T = 2 := by omega
  have hO : 3 - T = 1 ∨ 3 - T = 2 := by omega
  have e3 : (3 : Int) - (T : Int) = ((3 - T : Nat) : Int) := by omega
  obtain ⟨rfl, rfl, s1, s2, s3, s4, s9, slen, sall⟩ := id hS
  obtain ⟨V, hV, hV2⟩ := winL_cases hb hO
  have hWV : ∀ h2, Keep h1.length h1 h2 → ∃ h', CL g lf n fn_impl_WinnerOf [.int .i64 (R : Int), .int .i64 (C : Int), q, .int .i64 (3 - (T : Int))] h2 = some (.int .i64 (V : Int), h') ∧ Keep h2.length h2 h' := fun h2 k2 => by
    have := hWI (3 - (T : Int)) h2 k2
    rw [e3, hV] at this; rw [e3]; exact this
  by_cases hVT : V = T
  · subst hVT
    repeat (first | with_reducible refine wF ?_ | with_reducible refine wg1 rfl ?_ | with_reducible refine wpF ?_ | with_reducible refine wnT ?_ | with_reducible refine wpv ?_ | with_reducible refine wsm ?_ | with_reducible refine wx0 ?_ | with_reducible refine wx1 ?_ | with_reducible refine wx2 ?_ | with_reducible refine wx3 ?_ | with_reducible refine wbd (by assumption) ?_ | (with_reducible refine wbd (hpos _ (by assumption)) ?_) | (with_reducible refine wcv (hWV _ (by assumption)) (by assumption) hb1 fun _ _ => ?_) | with_reducible refine wgtrF (by omega) ?_ | with_reducible refine wneqF (by omega) ?_ | with_reducible refine wsub (by omega) ?_ | dsimp only)
    rename_i h3 k3
    refine loopW (fun m s => ∃ (i : Nat) (h4 : PHeap), s = laws_FnAnswers.st0 (.int .i64 (R : Int)) (.int .i64 (C : Int)) q (.int .i64 (V : Int)) (.int .i64 (3 - (V : Int))) (.int .i64 (i : Int)) h4 ∧ i + m = xs.length ∧ Keep h1.length h1 h4) ?_ lf xs.length _ (by omega) ⟨0, h3, rfl, by omega, k3⟩
    rintro n1 m s ⟨i, h4, rfl, him, k4⟩ next
    have hlen4 := (hq _ k4).len'
    rw [laws_FnAnswers.body0_eq]
    unfold laws_FnAnswers.body0
    simp only [env_C, env_pick, env_bin, env_extract, env_len]
    cases m with
    | zero =>
      repeat (first | with_reducible refine wF ?_ | with_reducible refine wrB ?_ | with_reducible refine wbd (by assumption) ?_ | (with_reducible refine wbd (hal _) ?_) | with_reducible refine wlssF (by omega) ?_ | rw [kLoop_exit] | rw [laws_FnAnswers.after0_se0_3_4_5_6_7_8_66] | dsimp only | simp only [env_C, env_g, env_lf, env_pick, env_alloc, env_box, env_build, env_buildSlice, env_load, env_store, env_ptr, env_bin, env_un, env_conv, env_make, env_slice, env_fieldAddr, env_field, env_indexAddr, env_index, env_extract, env_len, env_append, env_max, env_min, env_makeMap, env_lookup, env_update])
      exact W.ret rfl
    | succ m =>
      obtain ⟨q5, h5, e5, o5, k5⟩ := hPl n (by omega) (R : Int) (C : Int) (i : Int) (3 - (V : Int)) (htF _ k4) (hq _ k4) (by omega) (by omega)
      have k15 := k4.trans (k5.mono k4.1)
      cases hm : moveL (R : Int) (C : Int) xs (i : Int) (3 - (V : Int)) with
      | false =>
        rw [hm] at e5
        repeat (first | with_reducible refine wT ?_ | with_reducible refine wF ?_ | with_reducible refine wg0 rfl ?_ | with_reducible refine wpF ?_ | with_reducible refine wsm ?_ | with_reducible refine wx0 ?_ | with_reducible refine wx1 ?_ | with_reducible refine wbd (by assumption) ?_ | with_reducible refine wadd1 (by omega) ?_ | with_reducible refine wlssT (by omega) ?_ | dsimp only)
        exact next _ _ (Nat.lt_succ_self m) ⟨i + 1, h5, rfl, by omega, k15⟩
      | true =>
        rw [hm] at e5
        rw [playedL_eq hm] at o5
        obtain ⟨_, _, hi0, hj1, hj2⟩ := moveL_iff.1 hm
        have hb2 := pos_set hb hO i
        obtain ⟨U, hU, hU2⟩ := winL_cases hb2 hV2
        have hno : ¬ winL (R : Int) (C : Int) xs ((3 - V : Nat) : Int) = ((3 - V : Nat) : Int) := by rw [hV]; omega
        have hUV : U = V := by
          have : ¬ U = 3 - V := fun hh => hno ((winL_open hb hS hO hj1 hj2).2 ⟨i, hi0, by rw [show (3 : Int) - ((3 - V : Nat) : Int) = (V : Int) by omega, hU, hh]⟩)
          omega
        rw [hUV, ← e3] at hU
        obtain ⟨h6, e6, k6⟩ := hW n (by omega) (R : Int) (C : Int) (V : Int) (htF _ k15) o5.int (by rw [List.length_set]; omega) (by rw [List.length_set]; omega)
        rw [hU] at e6
        repeat (first | with_reducible refine wT ?_ | with_reducible refine wF ?_ | with_reducible refine wg1 rfl ?_ | with_reducible refine wpT ?_ | with_reducible refine wpv ?_ | with_reducible refine wsm ?_ | with_reducible refine wx0 ?_ | with_reducible refine wx1 ?_ | with_reducible refine wbd (by assumption) ?_ | with_reducible refine wadd1 (by omega) ?_ | with_reducible refine wlssT (by omega) ?_ | with_reducible refine wneqF (by omega) ?_ | dsimp only)
        exact next _ _ (Nat.lt_succ_self m) ⟨i + 1, h6, rfl, by omega, k15.trans (k6.mono k15.1)⟩
  · have hVO : V = 3 - T := by omega
    subst hVO
    cases hj : joinsL (R : Int) (C : Int) xs (3 - (T : Int)) with
    | true =>
      have hJ2 := hJI (3 - (T : Int))
      rw [hj] at hJ2
      repeat (first | with_reducible refine wT ?_ | with_reducible refine wF ?_ | with_reducible refine wg1 rfl ?_ | with_reducible refine wpF ?_ | with_reducible refine wnT ?_ | with_reducible refine wpv ?_ | with_reducible refine wsm ?_ | with_reducible refine wx0 ?_ | with_reducible refine wx1 ?_ | with_reducible refine wx2 ?_ | with_reducible refine wx3 ?_ | with_reducible refine wbd (by assumption) ?_ | with_reducible refine wlen (OwnSl.int (by assumption)) ?_ | (with_reducible refine wbd (hpos _ (by assumption)) ?_) | (with_reducible refine wcv (hWV _ (by assumption)) (by assumption) hb1 fun _ _ => ?_) | (with_reducible refine wcl (hCI _ _ (by assumption)) (by assumption) hb1 fun q4 h4 o4 f4 k4 => ?_) | with_reducible refine wgtrF (by omega) ?_ | with_reducible refine wneqT (by omega) ?_ | with_reducible refine wsub (by omega) ?_ | dsimp only)
      refine wgtr (fun e => ?_) (fun e => ?_)
      · repeat (first | with_reducible refine wg0 rfl ?_ | with_reducible refine wpT ?_ | with_reducible refine wsm ?_ | with_reducible refine wrB ?_ | dsimp only)
        exact W.ret rfl
      · repeat (first | with_reducible refine wg1 rfl ?_ | with_reducible refine wpF ?_ | with_reducible refine wsm ?_ | with_reducible refine wrB ?_ | (with_reducible refine wcv (hJ2 _ (by assumption)) (by assumption) hb1 fun _ _ => ?_) | dsimp only)
        exact W.ret rfl
    | false =>
      have hj' : joinsL (R : Int) (C : Int) xs (T : Int) = false := by
        cases e : joinsL (R : Int) (C : Int) xs (T : Int) with
        | false => rfl
        | true =>
          have := winL_done hb hS hT hO e
          rw [hV] at this; omega
      have hj12 : joinsL (R : Int) (C : Int) xs 1 = false ∧ joinsL (R : Int) (C : Int) xs 2 = false := by
        rcases hT with rfl | rfl
        · exact ⟨hj', hj⟩
        · exact ⟨hj, hj'⟩
      have hsome := (winCells_some hb hS hO hj12.1 hj12.2).2 hV
      rw [← e3] at hsome
      repeat (first | with_reducible refine wT ?_ | with_reducible refine wF ?_ | with_reducible refine wg1 rfl ?_ | with_reducible refine wg0 rfl ?_ | with_reducible refine wpT ?_ | with_reducible refine wpF ?_ | with_reducible refine wnT ?_ | with_reducible refine wpv ?_ | with_reducible refine wsm ?_ | with_reducible refine wrB ?_ | with_reducible refine wx0 ?_ | with_reducible refine wx1 ?_ | with_reducible refine wx2 ?_ | with_reducible refine wx3 ?_ | with_reducible refine wbd (by assumption) ?_ | with_reducible refine wlen (OwnSl.int (by assumption)) ?_ | (with_reducible refine wbd (hpos _ (by assumption)) ?_) | (with_reducible refine wcv (hWV _ (by assumption)) (by assumption) hb1 fun _ _ => ?_) | (with_reducible refine wcl (hCI _ _ (by assumption)) (by assumption) hb1 fun q4 h4 o4 f4 k4 => ?_) | with_reducible refine wgtrT (by omega) ?_ | with_reducible refine wgtrF (by omega) ?_ | with_reducible refine wneqT (by omega) ?_ | with_reducible refine wsub (by omega) ?_ | dsimp only)
      exact W.ret rfl

end Go.Proofs.YtkbnngklbfnkiaaDoor

/- The laws of chapter 3 over what the program's functions are asked to compute: promises 18, 19, 20 and 22. -/
namespace Go.Proofs.YtkbnngklbfnkiaaDoor
open Go Go.Ip G

theorem Fix.get {b : Nat} {h h' : PHeap} {p : PV} {xs : List Int} (s : Fix b h p xs) (k : Keep b h h') : IntSl .i64 h' p xs := s h' k
theorem sorted_get {L : List Int} (h : L.Pairwise (· < ·)) : ∀ i (hi : i + 1 < L.length), L[i] < L[i + 1] := fun i hi => List.pairwise_iff_getElem.1 h i (i + 1) (by omega) hi (by omega)
theorem wins_in {r c : Int} {xs : List Int} {pl : Int} {k : Nat} : decide ((k : Int) ∈ winCellsL r c xs pl) = winsB r c xs pl k := by
  rw [Bool.eq_iff_iff, decide_eq_true_iff, winCells_mem]
  constructor
  · rintro ⟨j, hj, hw⟩
    have : k = j := by omega
    rw [this]; exact hw
  · intro h; exact ⟨k, rfl, h⟩

variable (g : Nat → PV) (lf n : Nat)

set_option maxHeartbeats 2000000 in
theorem fnWinnerOf_calls (hW : WinnerOk g lf) {p : PV} {ys : List Int} {h : PHeap} (N : Nat) (hN : 45 ≤ N) (ha : Arg h p ys) (hlf : 1000 < lf) (ht : TabOk g h) :
    ∃ h', CL g lf N fn_laws_FnWinnerOf [p] h = some (.bool true, h') := by
  obtain ⟨n, rfl⟩ : ∃ n, N = n + 1 := ⟨N - 1, by omega⟩
  apply W.yes
  rw [laws_FnWinnerOf.call_eq]
  unfold laws_FnWinnerOf.main
  simp only [env_C, env_pick, env_buildSlice, env_load, env_store, env_bin, env_un, env_indexAddr, env_extract, env_len, env_append]
  have hlenp : lenP Tryd.prog 22 p = some (.int .i64 ys.length) := (ha.1 h (Keep.refl _ _)).len tyB
  by_cases hbig : (1048576 : Int) < (ys.length : Int)
  · repeat (first | with_reducible refine wT ?_ | with_reducible refine wrB ?_ | with_reducible refine wbd (by assumption) ?_ | with_reducible refine wgtrT (by omega) ?_)
    exact W.ret rfl
  obtain ⟨r, c, q, xs, pl, h1, e1, k1, hq0, hl, hp1, hp2⟩ := drawWinnerOf_W g lf n (by omega) ha (by omega)
  have htF := tabF ht k1
  have hq : Fix h1.length h1 q xs := hq0.fix
  have hb1 : h1.length ≤ h1.length := Nat.le_refl _
  have k0 : Keep h1.length h1 h1 := Keep.refl _ _
  have hpos : ∀ h2, Keep h1.length h1 h2 → CL g lf n fn_spec_PositionOk [.int .i64 r, .int .i64 c, q] h2 = some (.bool (posB r c xs), h2) := fun h2 k2 => specPositionOk_N g lf n (by omega) r c (hq h2 k2) (by omega) (by omega)
  have hal : ∀ h2, CL g lf n fn_laws_alive [] h2 = some (.bool true, h2) := fun h2 => alive_calls g lf n (by omega) h2
  have hI : ∀ h2, Keep h1.length h1 h2 → ∃ h', CL g lf n fn_impl_WinnerOf [.int .i64 r, .int .i64 c, q, .int .i64 pl] h2 = some (.int .i64 (winL r c xs pl), h') ∧ Keep h2.length h2 h' := fun h2 k2 => hW n (by omega) r c pl (htF _ k2) (hq _ k2) (by omega) (by omega)
  have hSp : ∀ h2, Keep h1.length h1 h2 → ∃ h', CL g lf n fn_spec_WinnerOf [.int .i64 r, .int .i64 c, q, .int .i64 pl] h2 = some (.int .i64 (winL r c xs pl), h') ∧ Keep h2.length h2 h' := fun h2 k2 => specWinnerOf_calls g lf n (by omega) r c pl (hq _ k2) (by omega) (by omega) hlf
  cases hb : posB r c xs with
  | false =>
    rw [winL_none (.inl hb)] at hI hSp
    rw [hb] at hpos
    repeat (first | with_reducible refine wT ?_ | with_reducible refine wF ?_ | with_reducible refine wg1 rfl ?_ | with_reducible refine wg0 rfl ?_ | with_reducible refine wpT ?_ | with_reducible refine wnF ?_ | with_reducible refine wsm ?_ | with_reducible refine wrB ?_ | with_reducible refine wx0 ?_ | with_reducible refine wx1 ?_ | with_reducible refine wx2 ?_ | with_reducible refine wx3 ?_ | with_reducible refine wbd (by assumption) ?_ | (with_reducible refine wbd (hpos _ (by assumption)) ?_) | (with_reducible refine wbd (hal _) ?_) | (with_reducible refine wcv (hI _ (by assumption)) (by assumption) hb1 fun _ _ => ?_) | (with_reducible refine wcv (hSp _ (by assumption)) (by assumption) hb1 fun _ _ => ?_) | with_reducible refine wgtrF (by omega) ?_ | with_reducible refine weqlT (by omega) ?_ | with_reducible refine wneqF (by omega) ?_ | dsimp only)
    exact W.ret rfl
  | true =>
  rw [hb] at hpos
  by_cases hpl : 2 < pl
  · rw [winL_none (.inr hpl)] at hI hSp
    repeat (first | with_reducible refine wT ?_ | with_reducible refine wF ?_ | with_reducible refine wg1 rfl ?_ | with_reducible refine wpT ?_ | with_reducible refine wpF ?_ | with_reducible refine wnT ?_ | with_reducible refine wpv ?_ | with_reducible refine wsm ?_ | with_reducible refine wrB ?_ | with_reducible refine wx0 ?_ | with_reducible refine wx1 ?_ | with_reducible refine wx2 ?_ | with_reducible refine wx3 ?_ | with_reducible refine wbd (by assumption) ?_ | (with_reducible refine wbd (hpos _ (by assumption)) ?_) | (with_reducible refine wbd (hal _) ?_) | (with_reducible refine wcv (hI _ (by assumption)) (by assumption) hb1 fun _ _ => ?_) | (with_reducible refine wcv (hSp _ (by assumption)) (by assumption) hb1 fun _ _ => ?_) | with_reducible refine wgtrT (by omega) ?_ | with_reducible refine wgtrF (by omega) ?_ | with_reducible refine weqlT (by omega) ?_ | with_reducible refine wneqF (by omega) ?_ | dsimp only)
    exact W.ret rfl
  obtain ⟨R, C, hS⟩ := sides_of hb
  obtain ⟨T, rfl⟩ := Int.eq_ofNat_of_zero_le (show 0 ≤ pl by omega)
  have hT : T = 1 ∨ T = 2 := by omega
  obtain ⟨rfl, rfl, s1, s2, s3, s4, s9, slen, sall⟩ := id hS
  obtain ⟨V, hV, hV2⟩ := winL_cases hb hT
  rw [hV] at hI hSp
  have hfirst := winL_first hb hS hT hV2 hV
  have hF : ∀ h2, Keep h1.length h1 h2 → ∃ h', CL g lf n fn_impl_WinnerOf [.int .i64 (R : Int), .int .i64 (C : Int), q, .int .i64 (V : Int)] h2 = some (.int .i64 (V : Int), h') ∧ Keep h2.length h2 h' := fun h2 k2 => by
    have := hW n (by omega) (R : Int) (C : Int) (V : Int) (htF _ k2) (hq _ k2) (by omega) (by omega)
    rw [hfirst] at this; exact this
  have htl : turnL (R : Int) (C : Int) xs = xs.reverse := by unfold turnL; rw [hb]; rfl
  have hml : mirL (R : Int) (C : Int) xs = mir R C xs := by unfold mirL; rw [hb]; rfl
  have hTu : ∀ h2, Keep h1.length h1 h2 → ∃ q' h', CL g lf n fn_impl_HalfTurned [.int .i64 (R : Int), .int .i64 (C : Int), q] h2 = some (q', h') ∧ OwnSl h2.length h' q' xs.reverse ∧ Keep h2.length h2 h' := fun h2 k2 => by
    have := halfTurned_calls g lf n (by omega) (R : Int) (C : Int) (hq _ k2) (by omega) (by omega)
    rw [htl] at this; exact this
  have hMi : ∀ h2, Keep h1.length h1 h2 → ∃ q' h', CL g lf n fn_impl_Mirrored [.int .i64 (R : Int), .int .i64 (C : Int), q] h2 = some (q', h') ∧ OwnSl h2.length h' q' (mir R C xs) ∧ Keep h2.length h2 h' := fun h2 k2 => by
    have := mirrored_calls g lf n (by omega) (R : Int) (C : Int) (hq _ k2) (by omega) (by omega)
    rw [hml] at this; exact this
  have hbr : posB (R : Int) (C : Int) xs.reverse = true := by
    unfold posB at hb ⊢; rw [List.length_reverse, List.all_reverse]; exact hb
  have hbm := posB_mir hS hb
  have hTW : ∀ h2, Keep h1.length h1 h2 → ∀ {q2 : PV}, IntSl .i64 h2 q2 xs.reverse → ∃ h', CL g lf n fn_impl_WinnerOf [.int .i64 (R : Int), .int .i64 (C : Int), q2, .int .i64 (T : Int)] h2 = some (.int .i64 (V : Int), h') ∧ Keep h2.length h2 h' := fun h2 k2 q2 i2 => by
    have := hW n (by omega) (R : Int) (C : Int) (T : Int) (htF _ k2) i2 (by rw [List.length_reverse]; omega) (by rw [List.length_reverse]; omega)
    rw [winL_turned hb hS hT hbr, hV] at this; exact this
  have hMW : ∀ h2, Keep h1.length h1 h2 → ∀ {q2 : PV}, IntSl .i64 h2 q2 (mir R C xs) → ∃ h', CL g lf n fn_impl_WinnerOf [.int .i64 (C : Int), .int .i64 (R : Int), q2, .int .i64 (3 - (T : Int))] h2 = some (.int .i64 (3 - (V : Int)), h') ∧ Keep h2.length h2 h' := fun h2 k2 q2 i2 => by
    have := hW n (by omega) (C : Int) (R : Int) ((3 - T : Nat) : Int) (htF _ k2) i2 (by rw [mir_length]; omega) (by rw [mir_length]; omega)
    rw [winL_mirrored hb hS hT hbm, hV, show ((3 - T : Nat) : Int) = 3 - (T : Int) by omega] at this; exact this
  have hCe : ∀ h2, Keep h1.length h1 h2 → ∃ q' h', CL g lf n fn_impl_CellsOf [.int .i64 (R : Int), .int .i64 (C : Int), q, .int .i64 0] h2 = some (q', h') ∧ OwnSl h2.length h' q' (cellsL (R : Int) (C : Int) xs 0) ∧ Keep h2.length h2 h' := fun h2 k2 => cellsOf_calls g lf n (by omega) (R : Int) (C : Int) 0 (hq _ k2) (by omega) (by omega)
  have hle := cellsL_length (R : Int) (C : Int) xs 0
  by_cases hfree : 0 < (cellsL (R : Int) (C : Int) xs 0).length
  · obtain ⟨j, hj, hj0⟩ := free_first hb hfree
    have hjl : j < xs.length := (List.getElem?_eq_some_iff.1 hj0).1
    have hmore := winL_more hb hS hT hV2 hj0 hV
    have hMo : ∀ h2, Keep h1.length h1 h2 → ∀ {q2 : PV}, IntSl .i64 h2 q2 (xs.set j (V : Int)) → ∃ h', CL g lf n fn_impl_WinnerOf [.int .i64 (R : Int), .int .i64 (C : Int), q2, .int .i64 (T : Int)] h2 = some (.int .i64 (V : Int), h') ∧ Keep h2.length h2 h' := fun h2 k2 q2 i2 => by
      have := hW n (by omega) (R : Int) (C : Int) (T : Int) (htF _ k2) i2 (by rw [List.length_set]; omega) (by rw [List.length_set]; omega)
      rw [hmore] at this; exact this
    by_cases hVT : V = T
    all_goals
      rcases hV2 with hV1 | hV1
      all_goals
        repeat (first | with_reducible refine wT ?_ | with_reducible refine wF ?_ | with_reducible refine wg1 rfl ?_ | with_reducible refine wg0 rfl ?_ | with_reducible refine wpT ?_ | with_reducible refine wpF ?_ | with_reducible refine wnT ?_ | with_reducible refine wpv ?_ | with_reducible refine wsm ?_ | with_reducible refine wx0 ?_ | with_reducible refine wx1 ?_ | with_reducible refine wx2 ?_ | with_reducible refine wx3 ?_ | with_reducible refine wbd (by assumption) ?_ | with_reducible refine wlen (OwnSl.int (by assumption)) ?_ | (with_reducible refine wbd (hpos _ (by assumption)) ?_) | (with_reducible refine wcv (hI _ (by assumption)) (by assumption) hb1 fun _ _ => ?_) | (with_reducible refine wcv (hSp _ (by assumption)) (by assumption) hb1 fun _ _ => ?_) | (with_reducible refine wcl (hCe _ (by assumption)) (by assumption) hb1 fun q4 h4 o4 f4 k4 => ?_) | with_reducible refine wgtrT (by omega) ?_ | with_reducible refine wgtrF (by omega) ?_ | with_reducible refine wneqT (by omega) ?_ | with_reducible refine wneqF (by omega) ?_ | dsimp only)
        obtain ⟨v5, q5, h5, e5, e5', o5, k5⟩ := copy_all (hq _ k4) (by omega) (by omega)
        repeat (first | with_reducible refine wbd (by assumption) ?_ | (with_reducible refine wat0 (f4.get k5) hfree fun a hl => ?_) | dsimp only)
        rw [hj]
        refine wst o5 hjl fun h6 o6 k6 l6 a6 e6 => ?_
        have k16 : Keep h1.length h1 h6 := k4.trans ((k5.trans k6).mono k4.1)
        refine wcv (hMo _ k16 o6.int) k16 hb1 fun h7 k7 => ?_
        repeat (first | with_reducible refine wF ?_ | with_reducible refine wg1 rfl ?_ | with_reducible refine wg0 rfl ?_ | with_reducible refine wpT ?_ | with_reducible refine wpF ?_ | with_reducible refine wpv ?_ | with_reducible refine wsm ?_ | with_reducible refine wrB ?_ | (with_reducible refine wcv (hF _ (by assumption)) (by assumption) hb1 fun _ _ => ?_) | (with_reducible refine wcl (hTu _ (by assumption)) (by assumption) hb1 fun _ _ _ _ _ => ?_) | (with_reducible refine wcl (hMi _ (by assumption)) (by assumption) hb1 fun _ _ _ _ _ => ?_) | (with_reducible refine wcv (hTW _ (by assumption) (OwnSl.int (by assumption))) (by assumption) hb1 fun _ _ => ?_) | (with_reducible refine wcv (hMW _ (by assumption) (OwnSl.int (by assumption))) (by assumption) hb1 fun _ _ => ?_) | with_reducible refine weqlT (by omega) ?_ | with_reducible refine weqlF (by omega) ?_ | with_reducible refine wneqF (by omega) ?_ | with_reducible refine wsub (by omega) ?_ | dsimp only)
        exact W.ret rfl
  · by_cases hVT : V = T
    all_goals
      rcases hV2 with hV1 | hV1
      all_goals
        repeat (first | with_reducible refine wF ?_ | with_reducible refine wg1 rfl ?_ | with_reducible refine wg0 rfl ?_ | with_reducible refine wpT ?_ | with_reducible refine wpF ?_ | with_reducible refine wnT ?_ | with_reducible refine wpv ?_ | with_reducible refine wsm ?_ | with_reducible refine wrB ?_ | with_reducible refine wx0 ?_ | with_reducible refine wx1 ?_ | with_reducible refine wx2 ?_ | with_reducible refine wx3 ?_ | with_reducible refine wbd (by assumption) ?_ | with_reducible refine wlen (OwnSl.int (by assumption)) ?_ | (with_reducible refine wbd (hpos _ (by assumption)) ?_) | (with_reducible refine wcv (hI _ (by assumption)) (by assumption) hb1 fun _ _ => ?_) | (with_reducible refine wcv (hSp _ (by assumption)) (by assumption) hb1 fun _ _ => ?_) | (with_reducible refine wcv (hF _ (by assumption)) (by assumption) hb1 fun _ _ => ?_) | (with_reducible refine wcl (hTu _ (by assumption)) (by assumption) hb1 fun _ _ _ _ _ => ?_) | (with_reducible refine wcl (hMi _ (by assumption)) (by assumption) hb1 fun _ _ _ _ _ => ?_) | (with_reducible refine wcv (hTW _ (by assumption) (OwnSl.int (by assumption))) (by assumption) hb1 fun _ _ => ?_) | (with_reducible refine wcv (hMW _ (by assumption) (OwnSl.int (by assumption))) (by assumption) hb1 fun _ _ => ?_) | (with_reducible refine wcl (hCe _ (by assumption)) (by assumption) hb1 fun q4 h4 o4 f4 k4 => ?_) | with_reducible refine wgtrF (by omega) ?_ | with_reducible refine weqlT (by omega) ?_ | with_reducible refine weqlF (by omega) ?_ | with_reducible refine wneqT (by omega) ?_ | with_reducible refine wneqF (by omega) ?_ | with_reducible refine wsub (by omega) ?_ | dsimp only)
        exact W.ret rfl

theorem fnWinningCells_calls (hPl : PlayedOk g lf) (hW : WinnerOk g lf) (hWC : WinCellsOk g lf) (hJ : JoinsOk g lf) {p : PV} {ys : List Int} {h : PHeap} (N : Nat) (hN : 45 ≤ N) (ha : Arg h p ys) (hlf : 1000 < lf) (ht : TabOk g h) :
    ∃ h', CL g lf N fn_laws_FnWinningCells [p] h = some (.bool true, h') := by
  obtain ⟨n, rfl⟩ : ∃ n, N = n + 1 := ⟨N - 1, by omega⟩
  apply W.yes
  rw [laws_FnWinningCells.call_eq]
  unfold laws_FnWinningCells.main
  simp only [env_C, env_lf, env_pick, env_bin, env_un, env_extract, env_len]
  have hlenp : lenP Tryd.prog 22 p = some (.int .i64 ys.length) := (ha.1 h (Keep.refl _ _)).len tyB
  by_cases hbig : (1048576 : Int) < (ys.length : Int)
  · repeat (first | with_reducible refine wT ?_ | with_reducible refine wrB ?_ | with_reducible refine wbd (by assumption) ?_ | with_reducible refine wgtrT (by omega) ?_)
    exact W.ret rfl
  obtain ⟨r, c, q, xs, pl, h1, e1, k1, hq0, hl, hp1, hp2⟩ := drawWinningCells_W g lf n (by omega) ha (by omega)
  have htF := tabF ht k1
  have hq : Fix h1.length h1 q xs := hq0.fix
  have hb1 : h1.length ≤ h1.length := Nat.le_refl _
  have k0 : Keep h1.length h1 h1 := Keep.refl _ _
  have hpos : ∀ h2, Keep h1.length h1 h2 → CL g lf n fn_spec_PositionOk [.int .i64 r, .int .i64 c, q] h2 = some (.bool (posB r c xs), h2) := fun h2 k2 => specPositionOk_N g lf n (by omega) r c (hq h2 k2) (by omega) (by omega)
  have hal : ∀ h2, CL g lf n fn_laws_alive [] h2 = some (.bool true, h2) := fun h2 => alive_calls g lf n (by omega) h2
  obtain ⟨q2, h2, e2, o2, k2⟩ := hWC n (by omega) r c pl (htF _ k0) (hq _ k0) (by omega) (by omega)
  obtain ⟨q3, h3, e3, o3, k3⟩ := specWinningCells_calls g lf n (by omega) r c pl (hq _ k2) (by omega) (by omega) hlf
  have k13 := k2.trans (k3.mono k2.1)
  have hll := winCellsL_length r c xs pl
  have e4 := sameInts_N g lf n (by omega) (o2.keep k3).int o3.int (by omega) (by omega)
  rw [decide_eq_true rfl] at e4
  have o2' := o2.keep k3
  have f2 : Fix h3.length h3 q2 (winCellsL r c xs pl) := o2'.int.fix
  have empty : winCellsL r c xs pl = [] → lenP Tryd.prog 23 q2 = some (.int .i64 0) := fun hh => by
    have := o2'.int.len'
    rw [hh] at this; exact this
  cases hb : posB r c xs with
  | false =>
    have hlen := empty (winCellsL_none (.inl hb))
    rw [hb] at hpos
    repeat (first | with_reducible refine wT ?_ | with_reducible refine wF ?_ | with_reducible refine wg1 rfl ?_ | with_reducible refine wg0 rfl ?_ | with_reducible refine wpT ?_ | with_reducible refine wnT ?_ | with_reducible refine wnF ?_ | with_reducible refine wsm ?_ | with_reducible refine wrB ?_ | with_reducible refine wx0 ?_ | with_reducible refine wx1 ?_ | with_reducible refine wx2 ?_ | with_reducible refine wx3 ?_ | with_reducible refine wbd (by assumption) ?_ | (with_reducible refine wbd (hpos _ (by assumption)) ?_) | (with_reducible refine wbd (hal _) ?_) | (with_reducible refine weqlT rfl ?_) | with_reducible refine wgtrF (by omega) ?_ | dsimp only)
    exact W.ret rfl
  | true =>
  rw [hb] at hpos
  by_cases hpl : 2 < pl
  · have hlen := empty (winCellsL_none (.inr hpl))
    repeat (first | with_reducible refine wT ?_ | with_reducible refine wF ?_ | with_reducible refine wg1 rfl ?_ | with_reducible refine wpT ?_ | with_reducible refine wpF ?_ | with_reducible refine wnT ?_ | with_reducible refine wpv ?_ | with_reducible refine wsm ?_ | with_reducible refine wrB ?_ | with_reducible refine wx0 ?_ | with_reducible refine wx1 ?_ | with_reducible refine wx2 ?_ | with_reducible refine wx3 ?_ | with_reducible refine wbd (by assumption) ?_ | (with_reducible refine wbd (hpos _ (by assumption)) ?_) | (with_reducible refine wbd (hal _) ?_) | (with_reducible refine weqlT rfl ?_) | with_reducible refine wgtrT (by omega) ?_ | with_reducible refine wgtrF (by omega) ?_ | dsimp only)
    exact W.ret rfl
  obtain ⟨R, C, hS⟩ := sides_of hb
  obtain ⟨T, rfl⟩ := Int.eq_ofNat_of_zero_le (show 0 ≤ pl by omega)
  have hT : T = 1 ∨ T = 2 := by omega
  have hO : 3 - T = 1 ∨ 3 - T = 2 := by omega
  have e3' : (3 : Int) - (T : Int) = ((3 - T : Nat) : Int) := by omega
  obtain ⟨rfl, rfl, s1, s2, s3, s4, s9, slen, sall⟩ := id hS
  have hb3 : h3.length ≤ h3.length := Nat.le_refl _
  have hq3 : Fix h3.length h3 q xs := hq.re k13 hb1
  have htF3 : ∀ hh, Keep h3.length h3 hh → TabOk g hh := fun hh kk => htF hh (k13.trans (kk.mono k13.1))
  have hhas : ∀ hh, Keep h3.length h3 hh → ∀ i : Nat, CL g lf n fn_laws_hasInt [q2, .int .i64 (i : Int)] hh = some (.bool (winsB (R : Int) (C : Int) xs (T : Int) i), hh) := fun hh kk i => by
    have := hasInt_N g lf n (by omega) (i : Int) (f2 _ kk) (by omega) (by omega)
    rw [wins_in] at this; exact this
  repeat (first | with_reducible refine wF ?_ | with_reducible refine wg1 rfl ?_ | with_reducible refine wpF ?_ | with_reducible refine wnT ?_ | with_reducible refine wpv ?_ | with_reducible refine wsm ?_ | with_reducible refine wx0 ?_ | with_reducible refine wx1 ?_ | with_reducible refine wx2 ?_ | with_reducible refine wx3 ?_ | with_reducible refine wbd (by assumption) ?_ | (with_reducible refine wbd (hpos _ (by assumption)) ?_) | with_reducible refine wgtrF (by omega) ?_ | with_reducible refine wsub (by omega) ?_ | dsimp only)
  refine loopW (fun m s => ∃ (i : Nat) (h4 : PHeap), s = laws_FnWinningCells.st0 (.int .i64 (R : Int)) (.int .i64 (C : Int)) q (.int .i64 (T : Int)) q2 (.int .i64 (3 - (T : Int))) (.int .i64 (i : Int)) h4 ∧ i + m = xs.length ∧ Keep h3.length h3 h4) ?_ lf xs.length _ (by omega) ⟨0, h3, rfl, by omega, Keep.refl _ _⟩
  rintro n1 m s ⟨i, h4, rfl, him, k4⟩ next
  have hlen4 := (hq3 _ k4).len'
  rw [laws_FnWinningCells.body0_eq]
  unfold laws_FnWinningCells.body0
  simp only [env_C, env_pick, env_bin, env_extract, env_len]
  cases m with
  | succ m =>
    obtain ⟨q5, h5, e5, o5, k5⟩ := hPl n (by omega) (R : Int) (C : Int) (i : Int) (T : Int) (htF3 _ k4) (hq3 _ k4) (by omega) (by omega)
    have k15 := k4.trans (k5.mono k4.1)
    cases hm : moveL (R : Int) (C : Int) xs (i : Int) (T : Int) with
    | false =>
      have hw : winsB (R : Int) (C : Int) xs (T : Int) i = false := by unfold winsB; rw [hm]; rfl
      have hha := hhas _ k15 i
      rw [hw] at hha
      rw [hm] at e5
      repeat (first | with_reducible refine wT ?_ | with_reducible refine wF ?_ | with_reducible refine wg0 rfl ?_ | with_reducible refine wpF ?_ | with_reducible refine wsm ?_ | with_reducible refine wx0 ?_ | with_reducible refine wx1 ?_ | with_reducible refine wbd (by assumption) ?_ | (with_reducible refine wneqBB ?_) | with_reducible refine wadd1 (by omega) ?_ | with_reducible refine wlssT (by omega) ?_ | dsimp only)
      exact next _ _ (Nat.lt_succ_self m) ⟨i + 1, h5, rfl, by omega, k15⟩
    | true =>
      rw [hm] at e5
      rw [playedL_eq hm] at o5
      obtain ⟨h6, e6, k6⟩ := hW n (by omega) (R : Int) (C : Int) (3 - (T : Int)) (htF3 _ k15) o5.int (by rw [List.length_set]; omega) (by rw [List.length_set]; omega)
      have k16 := k15.trans (k6.mono k15.1)
      have hha := hhas _ k16 i
      have hw : winsB (R : Int) (C : Int) xs (T : Int) i = decide (winL (R : Int) (C : Int) (xs.set i (T : Int)) (3 - (T : Int)) = (T : Int)) := by unfold winsB; rw [hm, Bool.true_and]
      rw [hw] at hha
      repeat (first | with_reducible refine wT ?_ | with_reducible refine wg1 rfl ?_ | with_reducible refine wpv ?_ | with_reducible refine wsm ?_ | with_reducible refine wx0 ?_ | with_reducible refine wx1 ?_ | with_reducible refine wbd (by assumption) ?_ | with_reducible refine wlssT (by omega) ?_ | dsimp only)
      refine weql (fun e => ?_) (fun e => ?_)
      · rw [decide_eq_true e] at hha
        repeat (first | with_reducible refine wF ?_ | with_reducible refine wpT ?_ | with_reducible refine wbd (by assumption) ?_ | (with_reducible refine wneqBB ?_) | with_reducible refine wadd1 (by omega) ?_ | dsimp only)
        exact next _ _ (Nat.lt_succ_self m) ⟨i + 1, h6, rfl, by omega, k16⟩
      · rw [decide_eq_false e] at hha
        repeat (first | with_reducible refine wF ?_ | with_reducible refine wpT ?_ | with_reducible refine wbd (by assumption) ?_ | (with_reducible refine wneqBB ?_) | with_reducible refine wadd1 (by omega) ?_ | dsimp only)
        exact next _ _ (Nat.lt_succ_self m) ⟨i + 1, h6, rfl, by omega, k16⟩
  | zero =>
    have hJI : ∀ t h2, Keep h3.length h3 h2 → ∃ h', CL g lf n fn_impl_Joins [.int .i64 (R : Int), .int .i64 (C : Int), q, .int .i64 t] h2 = some (.bool (joinsL (R : Int) (C : Int) xs t), h') ∧ Keep h2.length h2 h' := fun t h2 k2 => hJ n (by omega) (R : Int) (C : Int) t (htF3 _ k2) (hq3 _ k2) (by omega) (by omega)
    have hWI : ∀ h2, Keep h3.length h3 h2 → ∃ h', CL g lf n fn_impl_WinnerOf [.int .i64 (R : Int), .int .i64 (C : Int), q, .int .i64 (T : Int)] h2 = some (.int .i64 (winL (R : Int) (C : Int) xs (T : Int)), h') ∧ Keep h2.length h2 h' := fun h2 k2 => hW n (by omega) (R : Int) (C : Int) (T : Int) (htF3 _ k2) (hq3 _ k2) (by omega) (by omega)
    have hJ1 := hJI (T : Int)
    have hJ2 := hJI (3 - (T : Int))
    have hasc : ∀ h2, Keep h3.length h3 h2 → CL g lf n fn_laws_ascend [q2] h2 = some (.bool true, h2) := fun h2 k2 => ascend_calls g lf n (by omega) (f2 _ k2) (sorted_get (winCells_sorted _ _ _ _)) (by omega) (by omega)
    have hlen2 := o2'.int.len'
    obtain ⟨V, hWv, hW2⟩ := winL_cases hb hT
    rw [hWv] at hWI
    by_cases hdone : joinsL (R : Int) (C : Int) xs (T : Int) = true ∨ joinsL (R : Int) (C : Int) xs (3 - (T : Int)) = true
    · have hd12 : joinsL (R : Int) (C : Int) xs 1 = true ∨ joinsL (R : Int) (C : Int) xs 2 = true := by
        rcases hT with rfl | rfl
        · exact hdone
        · exact hdone.symm
      have hlen0 := empty (winCells_done hd12)
      clear hlen2
      cases j1 : joinsL (R : Int) (C : Int) xs (T : Int) with
      | true =>
        rw [j1] at hJ1
        repeat (first | with_reducible refine wF ?_ | with_reducible refine wg1 rfl ?_ | with_reducible refine wg0 rfl ?_ | with_reducible refine wpT ?_ | with_reducible refine wpF ?_ | with_reducible refine wnT ?_ | with_reducible refine wpv ?_ | with_reducible refine wsm ?_ | with_reducible refine wrB ?_ | with_reducible refine wbd (by assumption) ?_ | (with_reducible refine wcv (hJ1 _ (by assumption)) (by assumption) hb3 fun _ _ => ?_) | (with_reducible refine wbd (hasc _ (by assumption)) ?_) | with_reducible refine wlssF (by omega) ?_ | with_reducible refine weqlT (by omega) ?_ | rw [kLoop_exit] | rw [laws_FnWinningCells.after0_se0_3_4_5_6_7_8_9_56] | dsimp only | simp only [env_C, env_g, env_lf, env_pick, env_alloc, env_box, env_build, env_buildSlice, env_load, env_store, env_ptr, env_bin, env_un, env_conv, env_make, env_slice, env_fieldAddr, env_field, env_indexAddr, env_index, env_extract, env_len, env_append, env_max, env_min, env_makeMap, env_lookup, env_update])
        exact W.ret rfl
      | false =>
        have j2 : joinsL (R : Int) (C : Int) xs (3 - (T : Int)) = true := hdone.resolve_left (by rw [j1]; decide)
        rw [j1] at hJ1
        rw [j2] at hJ2
        repeat (first | with_reducible refine wF ?_ | with_reducible refine wg1 rfl ?_ | with_reducible refine wg0 rfl ?_ | with_reducible refine wpT ?_ | with_reducible refine wpF ?_ | with_reducible refine wnT ?_ | with_reducible refine wpv ?_ | with_reducible refine wsm ?_ | with_reducible refine wrB ?_ | with_reducible refine wbd (by assumption) ?_ | (with_reducible refine wcv (hJ1 _ (by assumption)) (by assumption) hb3 fun _ _ => ?_) | (with_reducible refine wcv (hJ2 _ (by assumption)) (by assumption) hb3 fun _ _ => ?_) | (with_reducible refine wbd (hasc _ (by assumption)) ?_) | with_reducible refine wlssF (by omega) ?_ | with_reducible refine weqlT (by omega) ?_ | rw [kLoop_exit] | rw [laws_FnWinningCells.after0_se0_3_4_5_6_7_8_9_56] | dsimp only | simp only [env_C, env_g, env_lf, env_pick, env_alloc, env_box, env_build, env_buildSlice, env_load, env_store, env_ptr, env_bin, env_un, env_conv, env_make, env_slice, env_fieldAddr, env_field, env_indexAddr, env_index, env_extract, env_len, env_append, env_max, env_min, env_makeMap, env_lookup, env_update])
        exact W.ret rfl
    · have j1 : joinsL (R : Int) (C : Int) xs (T : Int) = false := by simpa using fun h => hdone (.inl h)
      have j2 : joinsL (R : Int) (C : Int) xs (3 - (T : Int)) = false := by simpa using fun h => hdone (.inr h)
      have j12 : joinsL (R : Int) (C : Int) xs 1 = false ∧ joinsL (R : Int) (C : Int) xs 2 = false := by
        rcases hT with rfl | rfl
        · exact ⟨j1, j2⟩
        · exact ⟨j2, j1⟩
      rw [j1] at hJ1
      rw [j2] at hJ2
      have hsome := winCells_some hb hS hT j12.1 j12.2
      rw [hWv] at hsome
      by_cases hWT : V = T
      · have hpos0 := hsome.2 (by rw [hWT])
        repeat (first | with_reducible refine wF ?_ | with_reducible refine wg1 rfl ?_ | with_reducible refine wg0 rfl ?_ | with_reducible refine wpT ?_ | with_reducible refine wpF ?_ | with_reducible refine wnF ?_ | with_reducible refine wpv ?_ | with_reducible refine wsm ?_ | with_reducible refine wrB ?_ | with_reducible refine wbd (by assumption) ?_ | (with_reducible refine weqlBB ?_) | (with_reducible refine wcv (hJ1 _ (by assumption)) (by assumption) hb3 fun _ _ => ?_) | (with_reducible refine wcv (hJ2 _ (by assumption)) (by assumption) hb3 fun _ _ => ?_) | (with_reducible refine wcv (hWI _ (by assumption)) (by assumption) hb3 fun _ _ => ?_) | (with_reducible refine wbd (hasc _ (by assumption)) ?_) | with_reducible refine wlssF (by omega) ?_ | with_reducible refine wgtrT (by omega) ?_ | with_reducible refine weqlT (by omega) ?_ | rw [kLoop_exit] | rw [laws_FnWinningCells.after0_se0_3_4_5_6_7_8_9_56] | dsimp only | simp only [env_C, env_g, env_lf, env_pick, env_alloc, env_box, env_build, env_buildSlice, env_load, env_store, env_ptr, env_bin, env_un, env_conv, env_make, env_slice, env_fieldAddr, env_field, env_indexAddr, env_index, env_extract, env_len, env_append, env_max, env_min, env_makeMap, env_lookup, env_update])
        exact W.ret rfl
      · have hz : ¬ 0 < (winCellsL (R : Int) (C : Int) xs (T : Int)).length := fun hh => hWT (by have := hsome.1 hh; omega)
        repeat (first | with_reducible refine wF ?_ | with_reducible refine wg1 rfl ?_ | with_reducible refine wg0 rfl ?_ | with_reducible refine wpT ?_ | with_reducible refine wpF ?_ | with_reducible refine wnF ?_ | with_reducible refine wpv ?_ | with_reducible refine wsm ?_ | with_reducible refine wrB ?_ | with_reducible refine wbd (by assumption) ?_ | (with_reducible refine weqlBB ?_) | (with_reducible refine wcv (hJ1 _ (by assumption)) (by assumption) hb3 fun _ _ => ?_) | (with_reducible refine wcv (hJ2 _ (by assumption)) (by assumption) hb3 fun _ _ => ?_) | (with_reducible refine wcv (hWI _ (by assumption)) (by assumption) hb3 fun _ _ => ?_) | (with_reducible refine wbd (hasc _ (by assumption)) ?_) | with_reducible refine wlssF (by omega) ?_ | with_reducible refine wgtrF (by omega) ?_ | with_reducible refine weqlF (by omega) ?_ | rw [kLoop_exit] | rw [laws_FnWinningCells.after0_se0_3_4_5_6_7_8_9_56] | dsimp only | simp only [env_C, env_g, env_lf, env_pick, env_alloc, env_box, env_build, env_buildSlice, env_load, env_store, env_ptr, env_bin, env_un, env_conv, env_make, env_slice, env_fieldAddr, env_field, env_indexAddr, env_index, env_extract, env_len, env_append, env_max, env_min, env_makeMap, env_lookup, env_update])
        exact W.ret rfl

theorem fnLinePlayed_calls (hPl : PlayedOk g lf) (hW : WinnerOk g lf) (hLi : LineOk g lf) (hJ : JoinsOk g lf) {p : PV} {ys : List Int} {h : PHeap} (N : Nat) (hN : 45 ≤ N) (ha : Arg h p ys) (hlf : 1000 < lf) (ht : TabOk g h) :
    ∃ h', CL g lf N fn_laws_FnLinePlayed [p] h = some (.bool true, h') := by
  obtain ⟨n, rfl⟩ : ∃ n, N = n + 1 := ⟨N - 1, by omega⟩
  apply W.yes
  rw [laws_FnLinePlayed.call_eq]
  unfold laws_FnLinePlayed.main
  simp only [env_C, env_lf, env_pick, env_buildSlice, env_bin, env_un, env_extract, env_len, env_append]
  have hlenp : lenP Tryd.prog 22 p = some (.int .i64 ys.length) := (ha.1 h (Keep.refl _ _)).len tyB
  by_cases hbig : (1048576 : Int) < (ys.length : Int)
  · repeat (first | with_reducible refine wT ?_ | with_reducible refine wrB ?_ | with_reducible refine wbd (by assumption) ?_ | with_reducible refine wgtrT (by omega) ?_)
    exact W.ret rfl
  obtain ⟨r, c, q, xs, pl, h1, e1, k1, hq0, hl, hp1, hp2⟩ := drawLinePlayed_W g lf n (by omega) ha (by omega)
  have htF := tabF ht k1
  have hq : Fix h1.length h1 q xs := hq0.fix
  have hb1 : h1.length ≤ h1.length := Nat.le_refl _
  have k0 : Keep h1.length h1 h1 := Keep.refl _ _
  have hpos : ∀ h2, Keep h1.length h1 h2 → CL g lf n fn_spec_PositionOk [.int .i64 r, .int .i64 c, q] h2 = some (.bool (posB r c xs), h2) := fun h2 k2 => specPositionOk_N g lf n (by omega) r c (hq h2 k2) (by omega) (by omega)
  have hal : ∀ h2, CL g lf n fn_laws_alive [] h2 = some (.bool true, h2) := fun h2 => alive_calls g lf n (by omega) h2
  obtain ⟨q2, h2, e2, o2, k2⟩ := hLi n (by omega) r c pl (htF _ k0) (hq _ k0) (by omega) (by omega)
  obtain ⟨q3, h3, e3, o3, k3⟩ := specLinePlayed_calls g lf n (by omega) r c pl (hq _ k2) (by omega) (by omega) hlf
  have k13 := k2.trans (k3.mono k2.1)
  have hll := lineL_length r c xs pl
  have e4 := sameInts_N g lf n (by omega) (o2.keep k3).int o3.int (by omega) (by omega)
  rw [decide_eq_true rfl] at e4
  have o2' := o2.keep k3
  have f2 : Fix h3.length h3 q2 (lineL r c xs pl) := o2'.int.fix
  have empty : lineL r c xs pl = [] → lenP Tryd.prog 23 q2 = some (.int .i64 0) := fun hh => by
    have := o2'.int.len'
    rw [hh] at this; exact this
  cases hb : posB r c xs with
  | false =>
    have hlen := empty (lineL_none (.inl hb))
    rw [hb] at hpos
    repeat (first | with_reducible refine wT ?_ | with_reducible refine wF ?_ | with_reducible refine wg1 rfl ?_ | with_reducible refine wg0 rfl ?_ | with_reducible refine wpT ?_ | with_reducible refine wnT ?_ | with_reducible refine wnF ?_ | with_reducible refine wsm ?_ | with_reducible refine wrB ?_ | with_reducible refine wx0 ?_ | with_reducible refine wx1 ?_ | with_reducible refine wx2 ?_ | with_reducible refine wx3 ?_ | with_reducible refine wbd (by assumption) ?_ | (with_reducible refine wbd (hpos _ (by assumption)) ?_) | (with_reducible refine wbd (hal _) ?_) | (with_reducible refine weqlT rfl ?_) | with_reducible refine wgtrF (by omega) ?_ | dsimp only)
    exact W.ret rfl
  | true =>
  rw [hb] at hpos
  by_cases hpl : 2 < pl
  · have hlen := empty (lineL_none (.inr hpl))
    repeat (first | with_reducible refine wT ?_ | with_reducible refine wF ?_ | with_reducible refine wg1 rfl ?_ | with_reducible refine wpT ?_ | with_reducible refine wpF ?_ | with_reducible refine wnT ?_ | with_reducible refine wpv ?_ | with_reducible refine wsm ?_ | with_reducible refine wrB ?_ | with_reducible refine wx0 ?_ | with_reducible refine wx1 ?_ | with_reducible refine wx2 ?_ | with_reducible refine wx3 ?_ | with_reducible refine wbd (by assumption) ?_ | (with_reducible refine wbd (hpos _ (by assumption)) ?_) | (with_reducible refine wbd (hal _) ?_) | (with_reducible refine weqlT rfl ?_) | with_reducible refine wgtrT (by omega) ?_ | with_reducible refine wgtrF (by omega) ?_ | dsimp only)
    exact W.ret rfl
  obtain ⟨R, C, hS⟩ := sides_of hb
  obtain ⟨T, rfl⟩ := Int.eq_ofNat_of_zero_le (show 0 ≤ pl by omega)
  have hT : T = 1 ∨ T = 2 := by omega
  obtain ⟨rfl, rfl, s1, s2, s3, s4, s9, slen, sall⟩ := id hS
  have hpos1 : 1 ≤ xs.length := by rw [slen]; exact Nat.mul_pos s1 s3
  have hLe : lineF (R : Int) (C : Int) xs.length xs (T : Int) = lineL (R : Int) (C : Int) xs (T : Int) := by unfold lineL; rw [hb, playerB_of hT]; rfl
  obtain ⟨V, hV, hV2⟩ := winL_cases hb hT
  have hend := lineF_ok hV2 xs.length xs T hb hS hT (by rw [slen]; exact pop_le (by omega) (set_lt hS 0)) hV
  rw [hLe] at hend
  obtain ⟨L, hL⟩ : ∃ L, L = lineL (R : Int) (C : Int) xs (T : Int) := ⟨_, rfl⟩
  rw [← hL] at hend hLe f2 hll
  obtain ⟨Z, hZ⟩ : ∃ Z, Z = behindL xs L (T : Int) := ⟨_, rfl⟩
  rw [← hZ] at hend
  obtain ⟨v5, q5, h5, e5, e5', o5, k5⟩ := copy_all (hq _ k13) (by omega) (by omega)
  have hb3 : h3.length ≤ h3.length := Nat.le_refl _
  have hq3 : Fix h3.length h3 q xs := hq.re k13 hb1
  have htF3 : ∀ hh, Keep h3.length h3 hh → TabOk g hh := fun hh kk => htF hh (k13.trans (kk.mono k13.1))
  repeat (first | with_reducible refine wF ?_ | with_reducible refine wg1 rfl ?_ | with_reducible refine wpF ?_ | with_reducible refine wnT ?_ | with_reducible refine wpv ?_ | with_reducible refine wsm ?_ | with_reducible refine wx0 ?_ | with_reducible refine wx1 ?_ | with_reducible refine wx2 ?_ | with_reducible refine wx3 ?_ | with_reducible refine wbd (by assumption) ?_ | (with_reducible refine wbd (hpos _ (by assumption)) ?_) | with_reducible refine wgtrF (by omega) ?_ | dsimp only)
  refine loopW (fun m s => ∃ (i F : Nat) (zs : List Int) (T' : Nat) (q8 : PV) (h4 : PHeap), s = laws_FnLinePlayed.st0 (.int .i64 (R : Int)) (.int .i64 (C : Int)) q (.int .i64 (T : Int)) q2 q8 (.int .i64 (T' : Int)) (.int .i64 (i : Int)) h4 ∧ i + m = L.length ∧ posB (R : Int) (C : Int) zs = true ∧ (T' = 1 ∨ T' = 2) ∧ L.drop i = lineF (R : Int) (C : Int) F zs (T' : Int) ∧ behindL zs (L.drop i) (T' : Int) = Z ∧ IntSl .i64 h4 q8 zs ∧ Keep h3.length h3 h4) ?_ lf L.length _ (by omega) ⟨0, xs.length, xs, T, q5, h5, rfl, by omega, hb, hT, by rw [List.drop_zero]; exact hLe.symm, by rw [List.drop_zero]; exact hZ.symm, o5.int, k5⟩
  rintro n1 m s ⟨i, F, zs, T', q8, h4, rfl, him, hbz, hT', hLd, hZd, i8, k4⟩ next
  obtain ⟨R', C', hSz⟩ := sides_of hbz
  have hRR : R' = R := by have := hSz.1; omega
  have hCC : C' = C := by have := hSz.2.1; omega
  rw [hRR, hCC] at hSz
  have hzl : zs.length ≤ 9 := by have := hSz.2.2.2.2.2.2.2.1; have := hSz.2.2.2.2.2.2.1; omega
  have hlen4 := (f2 _ k4).len'
  rw [laws_FnLinePlayed.body0_eq]
  unfold laws_FnLinePlayed.body0
  simp only [env_C, env_load, env_bin, env_un, env_indexAddr, env_extract, env_len]
  cases m with
  | succ m =>
    have hi : i < L.length := by omega
    have hd : L.drop i = L[i] :: L.drop (i + 1) := List.drop_eq_getElem_cons hi
    rw [hd] at hLd hZd
    cases F with
    | zero => rw [lineF] at hLd; cases hLd
    | succ F =>
      rw [lineF] at hLd
      cases hg : goB (R : Int) (C : Int) zs with
      | false => rw [hg, if_neg (by decide)] at hLd; cases hLd
      | true =>
        rw [hg, if_pos rfl] at hLd
        obtain ⟨V', hV', hV2'⟩ := winL_cases hbz hT'
        obtain ⟨k, hk, hm, _⟩ := stepL_ok hbz hSz hT' hV2' hg hV'
        rw [hk] at hLd
        have hLi' : L[i] = (k : Int) := (List.cons.inj hLd).1
        have hLr := (List.cons.inj hLd).2
        rw [hLi', behindL] at hZd
        obtain ⟨q6, h6, e6, o6, k6⟩ := hPl n (by omega) (R : Int) (C : Int) (k : Int) (T' : Int) (htF3 _ k4) i8 (by omega) (by omega)
        rw [hm] at e6
        rw [playedL_eq hm] at o6
        have e3' : (3 : Int) - (T' : Int) = ((3 - T' : Nat) : Int) := by omega
        repeat (first | with_reducible refine wT ?_ | with_reducible refine wbd (by assumption) ?_ | (with_reducible refine wat (f2.get k4) hi fun a hl => ?_) | with_reducible refine wlssT (by omega) ?_)
        rw [hLi']
        repeat (first | with_reducible refine wF ?_ | with_reducible refine wnT ?_ | with_reducible refine wx0 ?_ | with_reducible refine wx1 ?_ | with_reducible refine wbd (by assumption) ?_ | with_reducible refine wadd1 (by omega) ?_ | with_reducible refine wsub (by omega) ?_ | dsimp only)
        rw [e3'] at hLr hZd ⊢
        exact next _ _ (Nat.lt_succ_self m) ⟨i + 1, F, zs.set k (T' : Int), 3 - T', q6, h6, rfl, by omega, pos_set hbz hT' k, by omega, hLr, hZd, o6.int, k4.trans (k6.mono k4.1)⟩
  | zero =>
    have hdn : L.drop i = [] := List.drop_eq_nil_of_le (by omega)
    rw [hdn, behindL] at hZd
    subst hZd
    obtain ⟨h6, e6, k6⟩ := hW n (by omega) (R : Int) (C : Int) (T : Int) (htF3 _ k4) (hq3 _ k4) (by omega) (by omega)
    have k16 := k4.trans (k6.mono k4.1)
    rw [hV] at e6
    obtain ⟨h7, e7, k7⟩ := hJ n (by omega) (R : Int) (C : Int) (V : Int) (htF3 _ k16) (i8.keep k6) (by omega) (by omega)
    rw [hend] at e7
    rcases hV2 with rfl | rfl
    · repeat (first | with_reducible refine wF ?_ | with_reducible refine wg1 rfl ?_ | with_reducible refine wg0 rfl ?_ | with_reducible refine wpT ?_ | with_reducible refine wsm ?_ | with_reducible refine wrB ?_ | with_reducible refine wbd (by assumption) ?_ | with_reducible refine wlssF (by omega) ?_ | with_reducible refine weqlT (by omega) ?_ | rw [kLoop_exit] | rw [laws_FnLinePlayed.after0_se0_3_4_5_6_7_8_9_10_59] | dsimp only | simp only [env_C, env_g, env_lf, env_pick, env_alloc, env_box, env_build, env_buildSlice, env_load, env_store, env_ptr, env_bin, env_un, env_conv, env_make, env_slice, env_fieldAddr, env_field, env_indexAddr, env_index, env_extract, env_len, env_append, env_max, env_min, env_makeMap, env_lookup, env_update])
      exact W.ret rfl
    · repeat (first | with_reducible refine wF ?_ | with_reducible refine wg1 rfl ?_ | with_reducible refine wpT ?_ | with_reducible refine wpF ?_ | with_reducible refine wpv ?_ | with_reducible refine wsm ?_ | with_reducible refine wrB ?_ | with_reducible refine wbd (by assumption) ?_ | with_reducible refine wlssF (by omega) ?_ | with_reducible refine weqlT (by omega) ?_ | with_reducible refine weqlF (by omega) ?_ | rw [kLoop_exit] | rw [laws_FnLinePlayed.after0_se0_3_4_5_6_7_8_9_10_59] | dsimp only | simp only [env_C, env_g, env_lf, env_pick, env_alloc, env_box, env_build, env_buildSlice, env_load, env_store, env_ptr, env_bin, env_un, env_conv, env_make, env_slice, env_fieldAddr, env_field, env_indexAddr, env_index, env_extract, env_len, env_append, env_max, env_min, env_makeMap, env_lookup, env_update])
      exact W.ret rfl

theorem fnWinsGrow_calls (hWC : WinCellsOk g lf) (hJ : JoinsOk g lf) {p : PV} {ys : List Int} {h : PHeap} (N : Nat) (hN : 45 ≤ N) (ha : Arg h p ys) (hlf : 1000 < lf) (ht : TabOk g h) :
    ∃ h', CL g lf N fn_laws_FnWinsGrow [p] h = some (.bool true, h') := by
  obtain ⟨n, rfl⟩ : ∃ n, N = n + 1 := ⟨N - 1, by omega⟩
  apply W.yes
  rw [laws_FnWinsGrow.call_eq]
  unfold laws_FnWinsGrow.main
  simp only [env_C, env_lf, env_pick, env_buildSlice, env_load, env_store, env_bin, env_indexAddr, env_extract, env_len, env_append]
  have hlenp : lenP Tryd.prog 22 p = some (.int .i64 ys.length) := (ha.1 h (Keep.refl _ _)).len tyB
  by_cases hbig : (1048576 : Int) < (ys.length : Int)
  · repeat (first | with_reducible refine wT ?_ | with_reducible refine wrB ?_ | with_reducible refine wbd (by assumption) ?_ | with_reducible refine wgtrT (by omega) ?_)
    exact W.ret rfl
  obtain ⟨r, c, q, xs, pl, h1, e1, k1, hq0, hl, hp1, hp2⟩ := drawWinningCells_W g lf n (by omega) ha (by omega)
  have htF := tabF ht k1
  have hq : Fix h1.length h1 q xs := hq0.fix
  have hb1 : h1.length ≤ h1.length := Nat.le_refl _
  have k0 : Keep h1.length h1 h1 := Keep.refl _ _
  have hpos : ∀ h2, Keep h1.length h1 h2 → CL g lf n fn_spec_PositionOk [.int .i64 r, .int .i64 c, q] h2 = some (.bool (posB r c xs), h2) := fun h2 k2 => specPositionOk_N g lf n (by omega) r c (hq h2 k2) (by omega) (by omega)
  have hal : ∀ h2, CL g lf n fn_laws_alive [] h2 = some (.bool true, h2) := fun h2 => alive_calls g lf n (by omega) h2
  obtain ⟨q2, h2, e2, o2, k2⟩ := hWC n (by omega) r c pl (htF _ k0) (hq _ k0) (by omega) (by omega)
  obtain ⟨q3, h3, e3, o3, k3⟩ := cellsOf_calls g lf n (by omega) r c 0 (hq _ k2) (by omega) (by omega)
  have k13 := k2.trans (k3.mono k2.1)
  have hll := winCellsL_length r c xs pl
  have hlc := cellsL_length r c xs 0
  have o2' := o2.keep k3
  have f2 : Fix h3.length h3 q2 (winCellsL r c xs pl) := o2'.int.fix
  have f3 : Fix h3.length h3 q3 (cellsL r c xs 0) := o3.int.fix
  have hl2 := o2'.int.len'
  have hl3 := o3.int.len'
  obtain ⟨q4, h4, e4, o4, k4⟩ := specWinningCells_calls g lf n (by omega) r c pl (hq _ k13) (by omega) (by omega) hlf
  by_cases hz : (winCellsL r c xs pl).length = 0
  · repeat (first | with_reducible refine wT ?_ | with_reducible refine wF ?_ | with_reducible refine wg1 rfl ?_ | with_reducible refine wg0 rfl ?_ | with_reducible refine wpT ?_ | with_reducible refine wsm ?_ | with_reducible refine wrB ?_ | with_reducible refine wx0 ?_ | with_reducible refine wx1 ?_ | with_reducible refine wx2 ?_ | with_reducible refine wx3 ?_ | with_reducible refine wbd (by assumption) ?_ | with_reducible refine wlen (OwnSl.int (by assumption)) ?_ | (with_reducible refine wbd (hal _) ?_) | with_reducible refine wgtrF (by omega) ?_ | with_reducible refine weqlT (by omega) ?_ | dsimp only)
    exact W.ret rfl
  by_cases hz2 : (cellsL r c xs 0).length = 0
  · repeat (first | with_reducible refine wT ?_ | with_reducible refine wF ?_ | with_reducible refine wg1 rfl ?_ | with_reducible refine wpT ?_ | with_reducible refine wpF ?_ | with_reducible refine wpv ?_ | with_reducible refine wsm ?_ | with_reducible refine wrB ?_ | with_reducible refine wx0 ?_ | with_reducible refine wx1 ?_ | with_reducible refine wx2 ?_ | with_reducible refine wx3 ?_ | with_reducible refine wbd (by assumption) ?_ | with_reducible refine wlen (OwnSl.int (by assumption)) ?_ | (with_reducible refine wbd (hal _) ?_) | with_reducible refine wgtrF (by omega) ?_ | with_reducible refine weqlT (by omega) ?_ | with_reducible refine weqlF (by omega) ?_ | dsimp only)
    exact W.ret rfl
  have hb : posB r c xs = true := by
    cases e : posB r c xs with
    | true => rfl
    | false => rw [winCellsL_none (.inl e)] at hz; exact (hz rfl).elim
  have hpl : ¬ 2 < pl := fun hh => by rw [winCellsL_none (.inr hh)] at hz; exact hz rfl
  obtain ⟨R, C, hS⟩ := sides_of hb
  obtain ⟨T, rfl⟩ := Int.eq_ofNat_of_zero_le (show 0 ≤ pl by omega)
  have hT : T = 1 ∨ T = 2 := by omega
  obtain ⟨rfl, rfl, s1, s2, s3, s4, s9, slen, sall⟩ := id hS
  have hpos1 : 1 ≤ xs.length := by rw [slen]; exact Nat.mul_pos s1 s3
  obtain ⟨j, hj, hj0⟩ := free_first hb (show 0 < _ by omega)
  have hjl : j < xs.length := (List.getElem?_eq_some_iff.1 hj0).1
  obtain ⟨v5, q5, h5, e5, e5', o5, k5⟩ := copy_all (hq _ k13) (by omega) (by omega)
  repeat (first | with_reducible refine wF ?_ | with_reducible refine wg1 rfl ?_ | with_reducible refine wpF ?_ | with_reducible refine wpv ?_ | with_reducible refine wsm ?_ | with_reducible refine wx0 ?_ | with_reducible refine wx1 ?_ | with_reducible refine wx2 ?_ | with_reducible refine wx3 ?_ | with_reducible refine wbd (by assumption) ?_ | (with_reducible refine wat0 (f3.get k5) (by omega) fun a hl => ?_) | with_reducible refine wgtrF (by omega) ?_ | with_reducible refine weqlF (by omega) ?_ | dsimp only)
  rw [hj]
  refine wst o5 hjl fun h6 o6 k6 l6 a6 e6 => ?_
  have k36 : Keep h3.length h3 h6 := k5.trans k6
  have k16 : Keep h1.length h1 h6 := k13.trans (k36.mono k13.1)
  have hsl : (xs.set j (T : Int)).length = xs.length := List.length_set ..
  obtain ⟨h7, e7, k7⟩ := hJ n (by omega) (R : Int) (C : Int) (T : Int) (htF _ k16) o6.int (by omega) (by omega)
  have k17 := k16.trans (k7.mono k16.1)
  have k37 := k36.trans (k7.mono k36.1)
  obtain ⟨q8, h8, e8, o8, k8⟩ := hWC n (by omega) (R : Int) (C : Int) (T : Int) (htF _ k17) (o6.keep k7).int (by omega) (by omega)
  have k38 := k37.trans (k8.mono k37.1)
  have hlw := winCellsL_length (R : Int) (C : Int) (xs.set j (T : Int)) (T : Int)
  cases hjm : joinsL (R : Int) (C : Int) (xs.set j (T : Int)) (T : Int) with
  | true =>
    rw [hjm] at e7
    have hd : winCellsL (R : Int) (C : Int) (xs.set j (T : Int)) (T : Int) = [] := winCells_done (by
      rcases hT with rfl | rfl
      · exact .inl hjm
      · exact .inr hjm)
    rw [hd] at o8
    repeat (first | with_reducible refine wT ?_ | with_reducible refine wrB ?_ | with_reducible refine wbd (by assumption) ?_ | with_reducible refine wlen (OwnSl.int (by assumption)) ?_ | (with_reducible refine weqlT rfl ?_) | dsimp only)
    exact W.ret rfl
  | false =>
    rw [hjm] at e7
    have f8 := o8.int.fix
    repeat (first | with_reducible refine wF ?_ | with_reducible refine wbd (by assumption) ?_ | dsimp only)
    refine loopW (fun m s => ∃ i : Nat, s = laws_FnWinsGrow.st0 q2 q3 q8 (.int .i64 (i : Int)) h8 ∧ i + m = (winCellsL (R : Int) (C : Int) xs (T : Int)).length) ?_ lf (winCellsL (R : Int) (C : Int) xs (T : Int)).length _ (by omega) ⟨0, rfl, by omega⟩
    rintro n1 m s ⟨i, rfl, him⟩ next
    have hl28 := (f2 _ k38).len'
    rw [laws_FnWinsGrow.body0_eq]
    unfold laws_FnWinsGrow.body0
    simp only [env_C, env_pick, env_load, env_bin, env_un, env_indexAddr, env_len]
    cases m with
    | zero =>
      repeat (first | with_reducible refine wF ?_ | with_reducible refine wrB ?_ | with_reducible refine wbd (by assumption) ?_ | (with_reducible refine wbd (hal _) ?_) | with_reducible refine wlssF (by omega) ?_ | rw [kLoop_exit] | rw [laws_FnWinsGrow.after0_se0_7_8_10_11_80] | dsimp only | simp only [env_C, env_g, env_lf, env_pick, env_alloc, env_box, env_build, env_buildSlice, env_load, env_store, env_ptr, env_bin, env_un, env_conv, env_make, env_slice, env_fieldAddr, env_field, env_indexAddr, env_index, env_extract, env_len, env_append, env_max, env_min, env_makeMap, env_lookup, env_update])
      exact W.ret rfl
    | succ m =>
      have hi : i < (winCellsL (R : Int) (C : Int) xs (T : Int)).length := by omega
      obtain ⟨a, ha', hwa⟩ := winCells_mem.1 (List.getElem_mem hi)
      obtain ⟨ad1, ea1, la1⟩ := (f2 _ k38).at' hi
      obtain ⟨ad2, ea2, la2⟩ := (f3 _ k38).at' (show 0 < (cellsL (R : Int) (C : Int) xs 0).length by omega)
      rw [ha'] at la1
      rw [hj] at la2
      have ea2' : indexAddrP Tryd.prog 23 q3 (.int .i64 0) = some ad2 := ea2
      by_cases haj : a = j
      · repeat (first | with_reducible refine wT ?_ | with_reducible refine wF ?_ | with_reducible refine wg0 rfl ?_ | with_reducible refine wpF ?_ | with_reducible refine wsm ?_ | with_reducible refine wck plain_int ?_ | with_reducible refine wbd (by assumption) ?_ | with_reducible refine wadd1 (by omega) ?_ | with_reducible refine wlssT (by omega) ?_ | with_reducible refine wneqF (by omega) ?_ | dsimp only)
        exact next _ _ (Nat.lt_succ_self m) ⟨i + 1, rfl, by omega⟩
      · have hha := hasInt_N g lf n (by omega) (a : Int) o8.int (by omega) (by omega)
        rw [wins_in, winCells_grow hb hS hT hj0 hjm hwa haj] at hha
        repeat (first | with_reducible refine wT ?_ | with_reducible refine wF ?_ | with_reducible refine wg1 rfl ?_ | with_reducible refine wpT ?_ | with_reducible refine wnT ?_ | with_reducible refine wpv ?_ | with_reducible refine wsm ?_ | with_reducible refine wck plain_int ?_ | with_reducible refine wbd (by assumption) ?_ | with_reducible refine wadd1 (by omega) ?_ | with_reducible refine wlssT (by omega) ?_ | with_reducible refine wneqT (by omega) ?_ | dsimp only)
        exact next _ _ (Nat.lt_succ_self m) ⟨i + 1, rfl, by omega⟩

end Go.Proofs.YtkbnngklbfnkiaaDoor

/- The program's sets of cells: the cells with a stone, the sides, growing and gaps, walked through with the rules of XW. -/
namespace Go.Proofs.YtkbnngklbfnkiaaDoor
open Go Go.Ip G

/-! ### sets, without program text -/
theorem bit_of_ne {w : Nat} (h : w ≠ 0) : ∃ j, w.testBit j = true := by
  apply Classical.byContradiction
  intro hh
  refine h (Nat.eq_of_testBit_eq fun j => ?_)
  rw [Nat.zero_testBit]
  cases e : w.testBit j with
  | false => rfl
  | true => exact (hh ⟨j, e⟩).elim

theorem orAll_or : ∀ (L : List Int) (w : Nat), orAll w L = w ||| orAll 0 L
  | [], w => by simp [orAll]
  | e :: l, w => by rw [orAll, orAll_or l, orAll, orAll_or l (0 ||| _), Nat.zero_or, Nat.or_assoc]

theorem wide_step {R C S : Nat} (hB : BoardOf R C) : ∀ (m i w : Nat), i + m = R * C → wideFrom R C S m i w = stepFrom (2 ^ 9 - 1) S i ((masksN R C).drop i) w
  | 0, i, w, h => by rw [List.drop_eq_nil_of_le (by rw [masksN_length]; omega)]; rfl
  | m + 1, i, w, h => by
    have hi : i < (masksN R C).length := by rw [masksN_length]; omega
    have hm : (masksN R C)[i] = orAll 0 (nearN R C i) := by simp [masksN]
    have hlt : (masksN R C)[i] < 2 ^ 9 := masksN_lt hB _ (List.getElem_mem hi)
    have ha : (masksN R C)[i] &&& (2 ^ 9 - 1) = (masksN R C)[i] := by rw [Nat.and_two_pow_sub_one_eq_mod, Nat.mod_eq_of_lt hlt]
    rw [wideFrom, List.drop_eq_getElem_cons hi, stepFrom, Nat.and_one_is_mod, wide_step hB m (i + 1) _ (by omega), ha, hm]
    congr 1
    by_cases e : S >>> i % 2 = 1
    · rw [if_pos e, if_neg (by omega), orAll_or]
    · rw [if_neg e, if_pos (by omega)]

theorem wide_bit {R C S : Nat} (hB : BoardOf R C) (j : Nat) : (wideN R C S).testBit j = true ↔ S.testBit j = true ∨ ∃ k, S.testBit k = true ∧ Adj (masksN R C) k j := by
  unfold wideN
  rw [wide_step hB _ 0 S (by omega), List.drop_zero, stepFrom_bit]
  refine or_congr_right ⟨fun ⟨i, h1, h2, _⟩ => ⟨i, by simpa using h1, h2⟩, fun ⟨i, h1, h2⟩ => ⟨i, by simpa using h1, h2, ?_⟩⟩
  have := (adj_in hB h2).2
  have h9 := hB.2.2.2.2
  rw [Nat.testBit_two_pow_sub_one]; simp; omega

theorem wide_lt {R C S : Nat} (hB : BoardOf R C) (hS : S < 2 ^ 9) : wideN R C S < 2 ^ 9 := by
  obtain ⟨h1, h2, h3, h4, h9⟩ := hB; exact wideFrom_lt h1 h2 h3 h4 h9 _ _ _ (by omega) hS

theorem grown_is {M : List Nat} {S T X : Nat} (hS : S < 2 ^ 9) (hT : T < 2 ^ 9) (h0 : ∀ j, S.testBit j = true → X.testBit j = true) (hr : ∀ j, X.testBit j = true → Reach M (S ||| T) S j)
    (hc : ∀ k j, X.testBit k = true → Adj M k j → T.testBit j = true → X.testBit j = true) : X = growN M (S ||| T) S := by
  apply Nat.eq_of_testBit_eq
  intro j
  rw [Bool.eq_iff_iff, grow_bit (Nat.or_lt_two_pow hS hT)]
  refine ⟨hr j, fun h => ?_⟩
  induction h with
  | start h _ => exact h0 _ h
  | step _ ha hs ih =>
    rw [Nat.testBit_or, Bool.or_eq_true] at hs
    rcases hs with hs | hs
    · exact h0 _ hs
    · exact hc _ _ ih ha hs

theorem grown_in {M : List Nat} {own first : Nat} : growN M ((first &&& own) ||| own) (first &&& own) = growN M own first := by
  have : (first &&& own) ||| own = own := by
    apply Nat.eq_of_testBit_eq; intro j
    rw [Nat.testBit_or, Nat.testBit_and]; cases first.testBit j <;> cases own.testBit j <;> rfl
  rw [this]
  unfold growN
  rw [Nat.and_assoc, Nat.and_self]

theorem listN_filter (S : Nat) : listN S = ((List.range 9).filter S.testBit).map fun k : Nat => (k : Int) := by
  have : ∀ m k, listFrom S m k = ((List.range' k m).filter S.testBit).map fun k : Nat => (k : Int) := by
    intro m
    induction m with
    | zero => intro k; rfl
    | succ m ih =>
      intro k
      rw [listFrom, List.range'_succ, List.filter_cons, ih]
      by_cases e : S >>> k % 2 = 1
      · rw [if_pos e, if_pos ((bit_iff S k).1 e), List.map_cons]
      · rw [if_neg e, if_neg (fun h => e ((bit_iff S k).2 h))]
  rw [List.range_eq_range']; exact this 9 0

variable (g : Nat → PV) (lf n : Nat)

/-! ### the program -/
theorem playerOk_W (N : Nat) (hN : 1 ≤ N) (h : PHeap) (p : Int) : CL g lf N fn_impl_playerOk [.int .i64 p] h = some (.bool (playerB p), h) := by
  obtain ⟨n, rfl⟩ : ∃ n, N = n + 1 := ⟨N - 1, by omega⟩
  have : W (CL g lf (n + 1) fn_impl_playerOk [.int .i64 p] h) fun v h' => v = .bool (playerB p) ∧ h' = h := by
    rw [impl_playerOk.call_eq]
    unfold impl_playerOk.main
    simp only [env_pick, env_bin]
    refine weql (fun e => ?_) (fun e => ?_)
    · repeat (first | with_reducible refine wg0 rfl ?_ | with_reducible refine wpT ?_ | with_reducible refine wsm ?_ | with_reducible refine wrB ?_ | dsimp only)
      exact W.ret ⟨by subst e; rfl, rfl⟩
    · repeat (first | with_reducible refine wg1 rfl ?_ | with_reducible refine wpv ?_ | with_reducible refine wsm ?_ | dsimp only)
      refine weql (fun e2 => ?_) (fun e2 => ?_)
      · repeat (first | with_reducible refine wpF ?_ | with_reducible refine wrB ?_)
        exact W.ret ⟨by subst e2; rfl, rfl⟩
      · repeat (first | with_reducible refine wpF ?_ | with_reducible refine wrB ?_)
        exact W.ret ⟨by rw [show playerB p = false by unfold playerB; exact decide_eq_false (by omega)], rfl⟩
  obtain ⟨_, _, e, rfl, rfl⟩ := this
  exact e

theorem setOf_W {xs : List Int} {p : PV} {h : PHeap} (what : Int) (hp : IntSl .i64 h p xs) (hl : xs.length ≤ 20) (N : Nat) (hN : 1 ≤ N) (hlf : 1000 < lf) :
    CL g lf N fn_impl_setOf [p, .int .i64 what] h = some (.int .i64 (setL xs what : Int), h) := by
  obtain ⟨n, rfl⟩ : ∃ n, N = n + 1 := ⟨N - 1, by omega⟩
  have : W (CL g lf (n + 1) fn_impl_setOf [p, .int .i64 what] h) fun v h' => v = .int .i64 (setL xs what : Int) ∧ h' = h := by
    rw [impl_setOf.call_eq]
    unfold impl_setOf.main
    simp only [env_lf, env_len]
    repeat (first | with_reducible refine wlen (by assumption) ?_)
    refine loopW (fun m s => ∃ i w : Nat, s = impl_setOf.st0 (.int .i64 what) (.int .i64 (w : Int)) p (.int .i64 (xs.length : Int)) (.int .i64 (i : Int)) h ∧ i + m = xs.length ∧ w < 2 ^ 30 ∧ setFrom what i (xs.drop i) w = setL xs what) ?_ lf xs.length _ (by omega) ⟨0, 0, rfl, by omega, by decide, rfl⟩
    rintro n1 m s ⟨i, w, rfl, him, hw, hset⟩ next
    rw [impl_setOf.body0_eq]
    unfold impl_setOf.body0
    simp only [env_load, env_bin, env_indexAddr]
    by_cases hi : i < xs.length
    · have hdx : xs.drop i = xs[i] :: xs.drop (i + 1) := List.drop_eq_getElem_cons hi
      have h30 : 1 <<< i < 2 ^ 30 := by rw [Nat.one_shiftLeft]; exact Nat.pow_lt_pow_right (by decide) (by omega)
      rw [hdx, setFrom] at hset
      repeat (first | with_reducible refine wT ?_ | with_reducible refine wbd (by assumption) ?_ | (with_reducible refine wat hp hi fun a hl => ?_) | with_reducible refine wlssT (by omega) ?_)
      refine weql (fun e => ?_) (fun e => ?_)
      · repeat (first | with_reducible refine wT ?_ | with_reducible refine wadd1 (by omega) ?_ | with_reducible refine wshl (by omega) ?_ | with_reducible refine wor (by omega) (by omega) ?_)
        rw [if_pos e] at hset
        exact next _ _ (show m - 1 < m by omega) ⟨i + 1, _, rfl, by omega, Nat.or_lt_two_pow hw h30, hset⟩
      · repeat (first | with_reducible refine wF ?_ | with_reducible refine wadd1 (by omega) ?_)
        rw [if_neg e] at hset
        exact next _ _ (show m - 1 < m by omega) ⟨i + 1, _, rfl, by omega, hw, hset⟩
    · rw [List.drop_eq_nil_of_le (by omega), setFrom] at hset
      repeat (first | with_reducible refine wF ?_ | with_reducible refine wrI ?_ | with_reducible refine wlssF (by omega) ?_ | rw [kLoop_exit] | rw [impl_setOf.after0_se0_1_5_8_9_10_11])
      exact W.ret ⟨by rw [hset], rfl⟩
  obtain ⟨_, _, e, rfl, rfl⟩ := this
  exact e

theorem cellsIn_W {S : Nat} (hS : S < 2 ^ 9) (N : Nat) (hN : 1 ≤ N) (hlf : 1000 < lf) (h : PHeap) :
    W (CL g lf N fn_impl_cellsIn [.int .i64 (S : Int)] h) fun q h' => OwnSl h.length h' q (listN S) ∧ Keep h.length h h' := by
  obtain ⟨n, rfl⟩ : ∃ n, N = n + 1 := ⟨N - 1, by omega⟩
  rw [impl_cellsIn.call_eq]
  unfold impl_cellsIn.main
  simp only [env_lf]
  refine loopW (fun m s => ∃ (i : Nat) (ys : List Int) (q : PV) (h1 : PHeap), s = impl_cellsIn.st0 (.int .i64 (S : Int)) q (.int .i64 (i : Int)) h1 ∧ i + m = 9 ∧ ys.length ≤ i ∧ ys ++ listFrom S m i = listN S ∧ OwnSl h.length h1 q ys ∧ Keep h.length h h1) ?_ lf 9 _ (by omega) ⟨0, [], _, h, rfl, by omega, by simp, rfl, OwnSl.nil _ _, Keep.refl _ _⟩
  rintro n1 m s ⟨i, ys, q, h1, rfl, him, hy, hL, o1, k1⟩ next
  rw [impl_cellsIn.body0_eq]
  unfold impl_cellsIn.body0
  simp only [env_buildSlice, env_bin, env_append]
  cases m with
  | zero =>
    rw [listFrom, List.append_nil] at hL
    repeat (first | with_reducible refine wF ?_ | with_reducible refine wlssF (by omega) ?_ | with_reducible refine wresO (by assumption) ?_ | rw [kLoop_exit] | rw [impl_cellsIn.after0_se0_0_3_5_6])
    exact W.ret ⟨hL ▸ o1, k1⟩
  | succ m =>
    have hsh : S >>> i < 2 ^ 62 := by have : S >>> i ≤ S := by { rw [Nat.shiftRight_eq_div_pow]; exact Nat.div_le_self _ _ }; omega
    rw [listFrom, ← Nat.and_one_is_mod] at hL
    repeat (first | with_reducible refine wT ?_ | with_reducible refine wshr (by omega) ?_ | with_reducible refine wlssT (by omega) ?_)
    refine wbd (f_and (a := S >>> i) (b := 1) hsh (by decide)) ?_
    refine weql (fun e => ?_) (fun e => ?_)
    · have e' : S >>> i &&& 1 = 1 := by simpa using Int.ofNat_inj.1 e
      rw [if_pos e'] at hL
      repeat (first | with_reducible refine wT ?_ | (refine wap o1 k1.1 (by omega) fun p' h' o2 k2 => ?_) | with_reducible refine wadd1 (by omega) ?_ | dsimp only)
      exact next _ _ (Nat.lt_succ_self m) ⟨i + 1, ys ++ [(i : Int)], p', h', rfl, by omega, by simp; omega, by rw [List.append_assoc]; exact hL, o2, k1.trans k2⟩
    · have e' : ¬ S >>> i &&& 1 = 1 := fun e2 => e (by rw [e2]; rfl)
      rw [if_neg e'] at hL
      repeat (first | with_reducible refine wF ?_ | with_reducible refine wadd1 (by omega) ?_)
      exact next _ _ (Nat.lt_succ_self m) ⟨i + 1, ys, q, h1, rfl, by omega, by omega, hL, o1, k1⟩

theorem sidesOf_W {R C P : Nat} (hB : BoardOf R C) (hP : P = 1 ∨ P = 2) (N : Nat) (hN : 1 ≤ N) (hlf : 1000 < lf) (h : PHeap) :
    CL g lf N fn_impl_sidesOf [.int .i64 (R : Int), .int .i64 (C : Int), .int .i64 (P : Int)] h = some (.tup [.int .i64 (sideN R C P false : Int), .int .i64 (sideN R C P true : Int)], h) := by
  obtain ⟨n, rfl⟩ : ∃ n, N = n + 1 := ⟨N - 1, by omega⟩
  have : W (CL g lf (n + 1) fn_impl_sidesOf [.int .i64 (R : Int), .int .i64 (C : Int), .int .i64 (P : Int)] h) fun v h' => v = .tup [.int .i64 (sideN R C P false : Int), .int .i64 (sideN R C P true : Int)] ∧ h' = h := by
    obtain ⟨h1, h2, h3, h4, h9⟩ := id hB
    rw [impl_sidesOf.call_eq]
    unfold impl_sidesOf.main
    simp only [env_lf, env_bin]
    repeat (first | with_reducible refine wmulN (by omega) ?_)
    refine loopW (fun m s => ∃ i w1 w2 : Nat, s = impl_sidesOf.st0 (.int .i64 (R : Int)) (.int .i64 (C : Int)) (.int .i64 (P : Int)) (.int .i64 (w1 : Int)) (.int .i64 (w2 : Int)) (.int .i64 ((R * C : Nat) : Int)) (.int .i64 (i : Int)) h ∧ i + m = R * C ∧ w1 < 2 ^ 9 ∧ w2 < 2 ^ 9 ∧ sideFrom R C P false m i w1 = sideN R C P false ∧ sideFrom R C P true m i w2 = sideN R C P true) ?_ lf (R * C) _ (by omega) ⟨0, 0, 0, rfl, by omega, by decide, by decide, rfl, rfl⟩
    rintro n1 m s ⟨i, w1, w2, rfl, him, hw1, hw2, hs1, hs2⟩ next
    rw [impl_sidesOf.body0_eq]
    unfold impl_sidesOf.body0
    simp only [env_bin]
    cases m with
    | zero =>
      rw [sideFrom] at hs1 hs2
      repeat (first | with_reducible refine wF ?_ | with_reducible refine wrI ?_ | with_reducible refine wlssF (by omega) ?_ | rw [kLoop_exit] | rw [impl_sidesOf.after0_se0_0_1_2_8_9_15_16_17])
      exact W.ret ⟨by rw [hs1, hs2], rfl⟩
    | succ m =>
      have hsl := shl_lt (show i < 9 by omega)
      rw [sideFrom] at hs1 hs2
      simp only [cond_true, cond_false, decide_eq_true_eq] at hs1 hs2
      obtain ⟨x, hx⟩ : ∃ x, x = atSide C P i := ⟨_, rfl⟩
      obtain ⟨y, hy⟩ : ∃ y, y = endSide R C P := ⟨_, rfl⟩
      rw [← hx] at hs1 hs2
      rw [← hy] at hs2
      have l1 := Nat.or_lt_two_pow hw1 hsl
      have l2 := Nat.or_lt_two_pow hw2 hsl
      rcases hP with rfl | rfl
      · have hx' : x = i / C := hx
        have hy' : y = R - 1 := hy
        by_cases a0 : x = 0 <;> by_cases a1 : x = y 
        all_goals
          first | rw [if_pos a0] at hs1 | rw [if_neg a0] at hs1
          first | rw [if_pos a1] at hs2 | rw [if_neg a1] at hs2
          repeat (first | with_reducible refine wT ?_ | with_reducible refine wF ?_ | (rw [← hx', ← hy']) | with_reducible refine wadd1 (by omega) ?_ | with_reducible refine wsub1 (by omega) (by omega) ?_ | with_reducible refine wquoN (by omega) (by omega) ?_ | with_reducible refine wshl (by omega) ?_ | with_reducible refine wor (by omega) (by omega) ?_ | with_reducible refine wlssT (by omega) ?_ | with_reducible refine weqlT (by omega) ?_ | with_reducible refine weqlF (by omega) ?_)
          first
            | exact next _ _ (Nat.lt_succ_self m) ⟨i + 1, _, _, rfl, by omega, l1, l2, hs1, hs2⟩
            | exact next _ _ (Nat.lt_succ_self m) ⟨i + 1, _, _, rfl, by omega, hw1, l2, hs1, hs2⟩
            | exact next _ _ (Nat.lt_succ_self m) ⟨i + 1, _, _, rfl, by omega, l1, hw2, hs1, hs2⟩
            | exact next _ _ (Nat.lt_succ_self m) ⟨i + 1, _, _, rfl, by omega, hw1, hw2, hs1, hs2⟩
      · have hx' : x = i % C := hx
        have hy' : y = C - 1 := hy
        by_cases a0 : x = 0 <;> by_cases a1 : x = y 
        all_goals
          first | rw [if_pos a0] at hs1 | rw [if_neg a0] at hs1
          first | rw [if_pos a1] at hs2 | rw [if_neg a1] at hs2
          repeat (first | with_reducible refine wT ?_ | with_reducible refine wF ?_ | (rw [← hx', ← hy']) | with_reducible refine wadd1 (by omega) ?_ | with_reducible refine wsub1 (by omega) (by omega) ?_ | with_reducible refine wquoN (by omega) (by omega) ?_ | with_reducible refine wremN (by omega) ?_ | with_reducible refine wshl (by omega) ?_ | with_reducible refine wor (by omega) (by omega) ?_ | with_reducible refine wlssT (by omega) ?_ | with_reducible refine weqlT (by omega) ?_ | with_reducible refine weqlF (by omega) ?_)
          first
            | exact next _ _ (Nat.lt_succ_self m) ⟨i + 1, _, _, rfl, by omega, l1, l2, hs1, hs2⟩
            | exact next _ _ (Nat.lt_succ_self m) ⟨i + 1, _, _, rfl, by omega, hw1, l2, hs1, hs2⟩
            | exact next _ _ (Nat.lt_succ_self m) ⟨i + 1, _, _, rfl, by omega, l1, hw2, hs1, hs2⟩
            | exact next _ _ (Nat.lt_succ_self m) ⟨i + 1, _, _, rfl, by omega, hw1, hw2, hs1, hs2⟩
  obtain ⟨_, _, e, rfl, rfl⟩ := this
  exact e

theorem grown_W {R C S T : Nat} (hB : BoardOf R C) (hS : S < 2 ^ 9) (hT : T < 2 ^ 9) (N : Nat) (hN : 6 ≤ N) (hlf : 1000 < lf) {h : PHeap} (ht : Tab g h) :
    ∃ h', CL g lf N fn_impl_grown [.int .i64 (R : Int), .int .i64 (C : Int), .int .i64 (S : Int), .int .i64 (T : Int)] h = some (.int .i64 (growN (masksN R C) (S ||| T) S : Int), h') ∧ Keep h.length h h' := by
  obtain ⟨n, rfl⟩ : ∃ n, N = n + 1 := ⟨N - 1, by omega⟩
  have : W (CL g lf (n + 1) fn_impl_grown [.int .i64 (R : Int), .int .i64 (C : Int), .int .i64 (S : Int), .int .i64 (T : Int)] h) fun v h' => v = .int .i64 (growN (masksN R C) (S ||| T) S : Int) ∧ Keep h.length h h' := by
    rw [impl_grown.call_eq]
    unfold impl_grown.main
    simp only [env_lf]
    refine loopW (fun m s => ∃ (X w : Nat) (h1 : PHeap), s = impl_grown.st0 (.int .i64 (R : Int)) (.int .i64 (C : Int)) (.int .i64 (X : Int)) (.int .i64 (T : Int)) (.int .i64 (w : Int)) h1 ∧ Keep h.length h h1 ∧ Tab g h1 ∧ X < 2 ^ 9 ∧ (∀ j, w.testBit j = true → X.testBit j = true) ∧
      (∀ j, S.testBit j = true → X.testBit j = true) ∧ (∀ j, X.testBit j = true → Reach (masksN R C) (S ||| T) S j) ∧ (∀ k j, X.testBit k = true → w.testBit k = false → Adj (masksN R C) k j → T.testBit j = true → X.testBit j = true) ∧ m = (512 - X) + (if w = 0 then 0 else 1)) ?_ lf (512 - S + (if S = 0 then 0 else 1)) _ (by split <;> omega)
      ⟨S, S, h, rfl, Keep.refl _ _, ht, hS, fun _ h => h, fun _ h => h, fun j hj => .start hj (by rw [Nat.testBit_or, hj]; rfl), fun k j h1 h2 _ _ => (by rw [h1] at h2; cases h2), rfl⟩
    rintro n1 m s ⟨X, w, h1, rfl, k1, t1, hX, hw, hSX, hXr, hc, hm⟩ next
    rw [impl_grown.body0_eq]
    unfold impl_grown.body0
    simp only [env_C, env_bin]
    by_cases e : w = 0
    · repeat (first | with_reducible refine wF ?_ | with_reducible refine wrI ?_ | with_reducible refine wneqF (by omega) ?_ | rw [kLoop_exit] | rw [impl_grown.after0_se0_0_1_2_3_9_12])
      refine W.ret ⟨?_, k1⟩
      rw [grown_is hS hT hSX hXr fun k j h1 h2 h3 => hc k j h1 (by rw [e, Nat.zero_testBit]) h2 h3]
    · have hw9 : w < 2 ^ 9 := Nat.lt_of_le_of_lt (sub_le hw) hX
      obtain ⟨b1, b2, b3, b4, b5⟩ := id hB
      obtain ⟨h2, e2, k2⟩ := withNear_calls g lf b1 b2 b3 b4 b5 hw9 n (by omega) (by omega) t1
      have hwl := wide_lt hB hw9
      have hal : wideN R C w &&& T < 2 ^ 9 := Nat.and_lt_two_pow _ hT
      have hml : minusN (wideN R C w &&& T) X < 2 ^ 9 := minusN_lt hal
      repeat (first | with_reducible refine wT ?_ | with_reducible refine wbd (by assumption) ?_ | with_reducible refine wand (by omega) (by omega) ?_ | with_reducible refine wor (by omega) (by omega) ?_ | with_reducible refine wandNot (by omega) (by omega) ?_ | with_reducible refine wneqT (by omega) ?_ | dsimp only)
      obtain ⟨w', hw'⟩ : ∃ w', w' = minusN (wideN R C w &&& T) X := ⟨_, rfl⟩
      have hb : ∀ j, w'.testBit j = true ↔ (w.testBit j = true ∨ ∃ k, w.testBit k = true ∧ Adj (masksN R C) k j) ∧ T.testBit j = true ∧ X.testBit j = false := fun j => by
        rw [hw', minusN_bit, Nat.testBit_and, ← wide_bit hB]; cases (wideN R C w).testBit j <;> cases T.testBit j <;> cases X.testBit j <;> simp
      rw [← hw'] at hml ⊢
      have hor : X ||| w' < 2 ^ 9 := Nat.or_lt_two_pow hX hml
      have hle : X ≤ X ||| w' := Nat.left_le_or
      have hne : w' ≠ 0 → X ≠ X ||| w' := fun hz he => by
        obtain ⟨j, hj⟩ := bit_of_ne hz
        have h1 := ((hb j).1 hj).2.2
        rw [he, Nat.testBit_or, hj, Bool.or_true] at h1; cases h1
      refine next _ _ ?_ ⟨X ||| w', w', h2, rfl, k1.trans (k2.mono k1.1), t1.keep k2, hor, fun j hj => by rw [Nat.testBit_or, hj, Bool.or_true], fun j hj => by rw [Nat.testBit_or, hSX j hj, Bool.true_or], ?_, ?_, rfl⟩
      · rw [hm, if_neg e]
        by_cases e' : w' = 0
        · rw [if_pos e']; omega
        · rw [if_neg e']; have := hne e'; omega
      · intro j hj
        rw [Nat.testBit_or, Bool.or_eq_true] at hj
        rcases hj with hj | hj
        · exact hXr j hj
        · obtain ⟨h1 | ⟨k, h1, h2⟩, h3, h4⟩ := (hb j).1 hj
          · rw [hw j h1] at h4; cases h4
          · exact .step (hXr k (hw k h1)) h2 (by rw [Nat.testBit_or, h3, Bool.or_true])
      · intro k j h1 h2 h3 h4
        rw [Nat.testBit_or, h2, Bool.or_false] at h1
        rw [Nat.testBit_or]
        by_cases hk : w.testBit k = true
        · cases hx : X.testBit j with
          | true => rfl
          | false => rw [(hb j).2 ⟨.inr ⟨k, hk, h3⟩, h4, hx⟩]; rfl
        · rw [hc k j h1 (by simpa using hk) h3 h4]; rfl
  obtain ⟨_, h', e, rfl, k⟩ := this
  exact ⟨h', e, k⟩

/-- What a next wave adds: the same as the model's. -/
theorem wave_is {R C : Nat} (hB : BoardOf R C) {x free edge : Nat} : x ||| minusN ((edge ||| wideN R C x) &&& free) x = stepFrom free x 0 (masksN R C) (x ||| (edge &&& free)) := by
  apply Nat.eq_of_testBit_eq
  intro j
  rw [Bool.eq_iff_iff, stepFrom_bit, Nat.testBit_or, minusN_bit, Nat.testBit_and, Nat.testBit_or, Nat.testBit_or, Nat.testBit_and]
  have hb := wide_bit (S := x) hB j
  constructor
  · intro h
    simp only [Bool.or_eq_true, Bool.and_eq_true] at h
    rcases h with h | ⟨⟨h | h, hf⟩, _⟩
    · left; simp [h]
    · left; simp [h, hf]
    · rcases hb.1 h with h | ⟨k, h1, h2⟩
      · left; simp [h]
      · right; exact ⟨k, by simpa using h1, h2, hf⟩
  · rintro (h | ⟨k, h1, h2, h3⟩)
    · simp only [Bool.or_eq_true, Bool.and_eq_true] at h
      rcases h with h | ⟨h1, h2⟩
      · simp [h]
      · cases hx : x.testBit j <;> simp [h1, h2]
    · have := hb.2 (.inr ⟨k, by simpa using h1, h2⟩)
      cases hx : x.testBit j <;> simp [this, h3]

end Go.Proofs.YtkbnngklbfnkiaaDoor

/- The program's chapter 2: Joins, GapOf, GroupOf, Filled and GapCells compute what the model's do. -/
namespace Go.Proofs.YtkbnngklbfnkiaaDoor
open Go Go.Ip G

variable (g : Nat → PV) (lf n : Nat)

theorem joinsOk (hlf : 1000 < lf) : JoinsOk g lf := by
  intro N hN r c pl xs p h ht hp hl hf
  obtain ⟨n, rfl⟩ : ∃ n, N = n + 1 := ⟨N - 1, by omega⟩
  have ht' : Tab g h := ht.1
  have hpos := positionOk_N g lf n (by omega) r c hp (by omega) hf
  have hplay := playerOk_W g lf n (by omega) h pl
  have : W (CL g lf (n + 1) fn_impl_Joins [.int .i64 r, .int .i64 c, p, .int .i64 pl] h) fun v h' => v = .bool (joinsL r c xs pl) ∧ Keep h.length h h' := by
    rw [impl_Joins.call_eq]
    unfold impl_Joins.main
    simp only [env_C, env_pick, env_bin, env_un, env_extract]
    unfold joinsL
    cases hb : posB r c xs with
    | false =>
      rw [hb] at hpos
      repeat (first | with_reducible refine wT ?_ | with_reducible refine wg0 rfl ?_ | with_reducible refine wpT ?_ | with_reducible refine wnF ?_ | with_reducible refine wsm ?_ | with_reducible refine wrB ?_ | with_reducible refine wbd (by assumption) ?_ | dsimp only)
      exact W.ret ⟨rfl, Keep.refl _ _⟩
    | true =>
      rw [hb] at hpos
      cases hpl : playerB pl with
      | false =>
        rw [hpl] at hplay
        repeat (first | with_reducible refine wT ?_ | with_reducible refine wg1 rfl ?_ | with_reducible refine wpF ?_ | with_reducible refine wnT ?_ | with_reducible refine wnF ?_ | with_reducible refine wpv ?_ | with_reducible refine wsm ?_ | with_reducible refine wrB ?_ | with_reducible refine wbd (by assumption) ?_ | dsimp only)
        exact W.ret ⟨rfl, Keep.refl _ _⟩
      | true =>
        rw [hpl] at hplay
        obtain ⟨R, C, hS⟩ := sides_of hb
        obtain ⟨P, rfl, hP⟩ := player_of hpl
        have hB := board_of_sides hS
        obtain ⟨rfl, rfl, _, _, _, _, h9, hlen, _⟩ := id hS
        have hst := set_lt9 hS (P : Int)
        have e1 := sidesOf_W g lf hB hP n (by omega) hlf h
        have e2 := setOf_W g lf (P : Int) hp (by omega) n (by omega) hlf
        have s1 := sideN_lt (P := P) (last := false) hB
        have s2 := sideN_lt (P := P) (last := true) hB
        have a1 : sideN R C P false &&& setL xs (P : Int) < 2 ^ 9 := Nat.and_lt_two_pow _ hst
        obtain ⟨h1, e3, k1⟩ := grown_W g lf hB a1 hst n (by omega) hlf ht'
        rw [grown_in] at e3
        have hgl := grow_lt (M := masksN R C) (fr := sideN R C P false) hst
        have hgl2 : growN (masksN R C) (setL xs (P : Int)) (sideN R C P false) &&& sideN R C P true < 2 ^ 9 := Nat.and_lt_two_pow _ s2
        repeat (first | with_reducible refine wF ?_ | with_reducible refine wg1 rfl ?_ | with_reducible refine wpF ?_ | with_reducible refine wnT ?_ | with_reducible refine wpv ?_ | with_reducible refine wsm ?_ | with_reducible refine wx0 ?_ | with_reducible refine wx1 ?_ | with_reducible refine wbd (by assumption) ?_ | with_reducible refine wand (by omega) (by omega) ?_ | dsimp only)
        show W _ fun v h' => v = .bool (true && true && joinsN R C P (setL xs (P : Int))) ∧ Keep h.length h h'
        unfold joinsN
        refine wneq (fun e => ?_) (fun e => ?_)
        · repeat (first | with_reducible refine wrB ?_)
          refine W.ret ⟨?_, k1⟩
          rw [decide_eq_false (by omega)]; rfl
        · repeat (first | with_reducible refine wrB ?_)
          refine W.ret ⟨?_, k1⟩
          rw [decide_eq_true (by omega)]; rfl
  obtain ⟨_, h', e, rfl, k⟩ := this
  exact ⟨h', e, k⟩

/-- The cells that close a gap, out of the list of the free cells. -/
theorem gapCells_list {R C P : Nat} {xs : List Int} (hb : posB (R : Int) (C : Int) xs = true) (hS : Sides (R : Int) (C : Int) R C xs) (hP : P = 1 ∨ P = 2) {G : Nat} (hG : gapL (R : Int) (C : Int) xs (P : Int) = (G : Int)) (h0 : 0 < G) :
    gapCellsL (R : Int) (C : Int) xs (P : Int) = (listN (setL xs 0)).filter fun k => decide (gapN (masksN R C) (setL xs (P : Int) ||| (1 <<< k.toNat)) (without (setL xs 0) k.toNat) (sideN R C P false) (sideN R C P true) (R * C) < (G : Int)) := by
  have hpos : 0 < gapL (R : Int) (C : Int) xs (P : Int) := by rw [hG]; omega
  have hgn := gapL_eq hb hP
  have hIs : IsGap (masksN R C) (setL xs (P : Int)) (setL xs 0) (sideN R C P false) (sideN R C P true) G := by
    rcases gap_spec (P := P) hS with ⟨k, h1, h2⟩ | ⟨h1, _⟩
    · have : k = G := by rw [← hgn, hG] at h1; omega
      exact this ▸ h2
    · rw [← hgn, hG] at h1; omega
  unfold gapCellsL
  rw [if_pos hpos, listN_filter, List.filter_map, List.filter_filter]
  congr 1
  have hx9 : xs.length ≤ 9 := by have := hS.2.2.2.2.2.2.2.1; have := hS.2.2.2.2.2.2.1; omega
  have h9 : List.range 9 = List.range xs.length ++ (List.range' xs.length (9 - xs.length)) := by
    rw [List.range_eq_range', List.range_eq_range', show 9 = xs.length + (9 - xs.length) by omega, ← List.range'_append_1]; simp
  rw [h9, List.filter_append]
  have hnil : (List.range' xs.length (9 - xs.length)).filter (fun k => ((fun k : Int => decide (gapN (masksN R C) (setL xs (P : Int) ||| (1 <<< k.toNat)) (without (setL xs 0) k.toNat) (sideN R C P false) (sideN R C P true) (R * C) < (G : Int))) ∘ fun k : Nat => (k : Int)) k && (setL xs 0).testBit k) = [] := by
    rw [List.filter_eq_nil_iff]
    intro k hk
    rw [List.mem_range'_1] at hk
    have : (setL xs 0).testBit k = false := by
      cases e : (setL xs 0).testBit k with
      | false => rfl
      | true => have := set_in hS e; have := hS.2.2.2.2.2.2.2.1; omega
    simp [this]
  rw [hnil, List.append_nil]
  apply List.filter_congr
  intro k hk
  rw [List.mem_range] at hk
  have hgd : xs.getD k 0 = xs[k] := by rw [List.getD_eq_getElem?_getD, List.getElem?_eq_getElem hk]; rfl
  have hbit : (setL xs 0).testBit k = decide (xs.getD k 0 = 0) := by
    rw [Bool.eq_iff_iff, setL_bit, decide_eq_true_iff, hgd, List.getElem?_eq_getElem hk, Option.some.injEq]
  rw [hbit, Bool.and_comm]
  cases hz : decide (xs.getD k 0 = 0) with
  | false => rw [Bool.and_false, Bool.and_false]
  | true =>
    have hk0 : xs[k]? = some 0 := by rw [List.getElem?_eq_getElem hk, ← hgd, of_decide_eq_true hz]
    obtain ⟨m1, m2, m3⟩ := set_more hS hP hk0
    have hgs := gapL_eq (pos_set hb hP k) hP
    rw [Bool.and_true, Bool.and_true, hgs, hG]
    rw [m1, m2]
    have hst := gap_stone hS hP hk0 hIs
    rw [m1, m2] at hst
    show decide _ = decide (gapN (masksN R C) (setL xs (P : Int) ||| (1 <<< k)) (without (setL xs 0) k) (sideN R C P false) (sideN R C P true) (R * C) < (G : Int))
    apply decide_eq_decide.2
    rcases hst with h | ⟨_, h⟩ <;> rw [h] <;> omega

end Go.Proofs.YtkbnngklbfnkiaaDoor

/- The least cell of a set, as the library finds it by its table of 64 bytes; and comparing a slice with nil, copying it. -/
namespace Go.Proofs.YtkbnngklbfnkiaaDoor
open Go Go.Ip G

/-- The least number in a set of nine; nine if there is none. -/
def leastN (x : Nat) : Nat := ((List.range 9).find? fun k => x.testBit k).getD 9
def lsB (x : Nat) : Bool := x.testBit (leastN x) && decide (leastN x < 9) && (List.range (leastN x)).all (fun j => !x.testBit j) && (x &&& (x - 1) == without x (leastN x))
theorem ls_all : ((List.range 512).all fun x => x == 0 || lsB x) = true := by kernel_rfl
theorem least_ok {x : Nat} (hx : x < 2 ^ 9) (h0 : x ≠ 0) : x.testBit (leastN x) = true ∧ leastN x < 9 ∧ (∀ j, j < leastN x → x.testBit j = false) ∧ x &&& (x - 1) = without x (leastN x) := by
  have h := List.all_eq_true.1 ls_all x (List.mem_range.2 hx)
  have h1 : lsB x = true := by
    rcases Bool.or_eq_true_iff.1 h with h | h
    · exact absurd (by simpa using h) h0
    · exact h
  unfold lsB at h1
  simp only [Bool.and_eq_true, decide_eq_true_eq, beq_iff_eq] at h1
  obtain ⟨⟨⟨a, b⟩, c⟩, d⟩ := h1
  exact ⟨a, b, fun j hj => by have := List.all_eq_true.1 c j (List.mem_range.2 hj); simpa using this, d⟩

/-- What the library computes, step by step. -/
def isU (o : Option PV) (a : Nat) : Bool := match o with | some (.int .u64 (.ofNat b)) => b == a | _ => false
theorem isU_eq {o : Option PV} {a : Nat} (h : isU o a = true) : o = some (.int .u64 (a : Int)) := by
  unfold isU at h
  split at h
  · have := beq_iff_eq.1 h; subst this; rfl
  · cases h
def tz5 (x : Nat) : Nat := ((1 <<< leastN x) * 285870213051353865) % 2 ^ 64
def tz6 (x : Nat) : Nat := tz5 x / 2 ^ 58
noncomputable def tzB (x : Nat) : Bool := isU (unP .neg (.int .u64 (x : Int))) (2 ^ 64 - x) && (isU (binP Tryd.prog .and 83 (.int .u64 (x : Int)) (.int .u64 ((2 ^ 64 - x : Nat) : Int))) (1 <<< leastN x) &&
  (isU (binP Tryd.prog .mul 83 (.int .u64 ((1 <<< leastN x : Nat) : Int)) (.int .u64 285870213051353865)) (tz5 x) && (isU (binP Tryd.prog .shr 83 (.int .u64 (tz5 x : Int)) (.int .u64 58)) (tz6 x) && tab64N[tz6 x]? == some (leastN x))))
theorem tz_all : ((List.range 512).all fun x => x == 0 || tzB x) = true := by kernel_rfl
theorem tz_one {x : Nat} (hx : x < 2 ^ 9) (h0 : x ≠ 0) : tzB x = true := by
  have h := List.all_eq_true.1 tz_all x (List.mem_range.2 hx)
  rcases Bool.or_eq_true_iff.1 h with h | h
  · exact absurd (beq_iff_eq.1 h) h0
  · exact h
theorem tz_steps {x : Nat} (hx : x < 2 ^ 9) (h0 : x ≠ 0) : ∃ v3 v4 v5, ∃ i : Nat, unP .neg (.int .u64 (x : Int)) = some v3 ∧ binP Tryd.prog .and 83 (.int .u64 (x : Int)) v3 = some v4 ∧ binP Tryd.prog .mul 83 v4 (.int .u64 285870213051353865) = some v5 ∧
    binP Tryd.prog .shr 83 v5 (.int .u64 58) = some (.int .u64 (i : Int)) ∧ tab64N[i]? = some (leastN x) := by
  have h1 := tz_one hx h0
  unfold tzB at h1
  obtain ⟨a, h1⟩ := Bool.and_eq_true_iff.1 h1
  obtain ⟨b, h1⟩ := Bool.and_eq_true_iff.1 h1
  obtain ⟨c, h1⟩ := Bool.and_eq_true_iff.1 h1
  obtain ⟨d, h1⟩ := Bool.and_eq_true_iff.1 h1
  exact ⟨_, _, _, _, isU_eq a, isU_eq b, isU_eq c, isU_eq d, beq_iff_eq.1 h1⟩

theorem tyTzU : Tryd.prog.underlying 88 = some (.array 64 5) := by kernel_rfl
theorem tyTz1 : sizeT Tryd.prog 5 = some 1 := by kernel_rfl
theorem tyTzA : isAggT Tryd.prog 5 = some false := by kernel_rfl
theorem tzConv (l : Nat) (hl : l < 9) : convP Tryd.prog 5 3 (.int .u8 (l : Int)) = some (.int .i64 (l : Int)) := by
  have : convP Tryd.prog 5 3 (.int .u8 (l : Int)) = some (.int .i64 (IntKind.i64.wrap (l : Int))) := by kernel_rfl
  rw [this, wr (by omega)]
theorem tzConv2 (x : Nat) (hx : x < 2 ^ 9) : convP Tryd.prog 3 74 (.int .i64 (x : Int)) = some (.int .u64 (x : Int)) := by
  have : convP Tryd.prog 3 74 (.int .i64 (x : Int)) = some (.int .u64 (IntKind.u64.wrap (x : Int))) := by kernel_rfl
  rw [this]
  have : IntKind.u64.wrap (x : Int) = (x : Int) := by unfold IntKind.wrap; simp [IntKind.bits, IntKind.signed]; omega
  rw [this]

variable (g : Nat → PV) (lf n : Nat)

/-- The library's table is known to lie somewhere. -/
def Big (g : Nat → PV) : Prop := ∃ id, g 2 = .ptr id 0

theorem tz64_W {x : Nat} (hx : x < 2 ^ 9) (h0 : x ≠ 0) (hb : Big g) {h : PHeap} (ht : Tab64 g h) (N : Nat) (hN : 1 ≤ N) : CL g lf N fn_bits_TrailingZeros64 [.int .u64 (x : Int)] h = some (.int .i64 (leastN x : Int), h) := by
  obtain ⟨n, rfl⟩ : ∃ n, N = n + 1 := ⟨N - 1, by omega⟩
  obtain ⟨id, hg⟩ := hb
  have ho := ht id hg
  obtain ⟨v3, v4, v5, i, e3, e4, e5, e6, hi⟩ := tz_steps hx h0
  have hi64 : i < 64 := (List.getElem?_eq_some_iff.1 hi).1
  have e7 : indexAddrP Tryd.prog 88 (.ptr id 0) (.int .u64 (i : Int)) = some (.ptr id i) := by simp [indexAddrP, tyTzU, tyTz1]; omega
  have e8 : loadP Tryd.prog 5 (.ptr id i) h = some (.int .u8 (leastN x : Int)) := by
    simp [loadP, tyTzA, cellsAt, ho, PObj.get, tab64Cells, hi]
  have e9 := tzConv (leastN x) (least_ok hx h0).2.1
  have : W (CL g lf (n + 1) fn_bits_TrailingZeros64 [.int .u64 (x : Int)] h) fun v h' => v = .int .i64 (leastN x : Int) ∧ h' = h := by
    rw [bits_TrailingZeros64.call_eq]
    unfold bits_TrailingZeros64.main
    simp only [env_g, env_load, env_bin, env_un, env_conv, env_indexAddr]
    refine weqlF (by omega) ?_
    rw [hg]
    repeat (first | with_reducible refine wF ?_ | with_reducible refine wrI ?_ | with_reducible refine wbd (by assumption) ?_)
    exact W.ret ⟨rfl, rfl⟩
  obtain ⟨_, _, e, rfl, rfl⟩ := this
  exact e

theorem leastIn_W {x : Nat} (hx : x < 2 ^ 9) (h0 : x ≠ 0) (hb : Big g) {h : PHeap} (ht : Tab64 g h) (N : Nat) (hN : 3 ≤ N) : CL g lf N fn_impl_leastIn [.int .i64 (x : Int)] h = some (.int .i64 (leastN x : Int), h) := by
  obtain ⟨n, rfl⟩ : ∃ n, N = n + 1 := ⟨N - 1, by omega⟩
  obtain ⟨n, rfl⟩ : ∃ m, n = m + 1 := ⟨n - 1, by omega⟩
  have e1 := tzConv2 x hx
  have e2 := tz64_W g lf hx h0 hb ht n (by omega)
  have e3 : CL g lf (n + 1) fn_bits_TrailingZeros [.int .u64 (x : Int)] h = some (.int .i64 (leastN x : Int), h) := by
    have : W (CL g lf (n + 1) fn_bits_TrailingZeros [.int .u64 (x : Int)] h) fun v h' => v = .int .i64 (leastN x : Int) ∧ h' = h := by
      rw [bits_TrailingZeros.call_eq]
      unfold bits_TrailingZeros.main
      simp only [env_C, env_conv]
      repeat (first | with_reducible refine wF ?_ | with_reducible refine wrI ?_ | with_reducible refine wbd (by assumption) ?_ | dsimp only)
      exact W.ret ⟨rfl, rfl⟩
    obtain ⟨_, _, e, rfl, rfl⟩ := this
    exact e
  have : W (CL g lf (n + 1 + 1) fn_impl_leastIn [.int .i64 (x : Int)] h) fun v h' => v = .int .i64 (leastN x : Int) ∧ h' = h := by
    rw [impl_leastIn.call_eq]
    unfold impl_leastIn.main
    simp only [env_C, env_conv]
    repeat (first | with_reducible refine wrI ?_ | with_reducible refine wbd (by assumption) ?_ | dsimp only)
    exact W.ret ⟨rfl, rfl⟩
  obtain ⟨_, _, e, rfl, rfl⟩ := this
  exact e

/-- What a set loses with its least cell. -/
theorem f_drop {x : Nat} (hx : x < 2 ^ 9) (h0 : x ≠ 0) : binP Tryd.prog .sub 3 (.int .i64 (x : Int)) (.int .i64 1) = some (.int .i64 ((x - 1 : Nat) : Int)) ∧ binP Tryd.prog .and 3 (.int .i64 (x : Int)) (.int .i64 ((x - 1 : Nat) : Int)) = some (.int .i64 (without x (leastN x) : Int)) := by
  refine ⟨by rw [bin_sub, wr (by omega), show (x : Int) - 1 = ((x - 1 : Nat) : Int) by omega], ?_⟩
  rw [f_and (by omega) (by omega), (least_ok hx h0).2.2.2]
theorem without_lt9 {x k : Nat} (hx : x < 2 ^ 9) : without x k < 2 ^ 9 := by rw [← minusN_one]; exact minusN_lt hx
theorem without_less {x : Nat} (hx : x < 2 ^ 9) (h0 : x ≠ 0) : without x (leastN x) < x := by
  have h := (least_ok hx h0).2.2.2
  rw [← h]
  have : x &&& (x - 1) ≤ x - 1 := Nat.and_le_right
  omega

/-! ### slices.Clone -/
theorem tySlB : isSliceT Tryd.prog 23 = true := by kernel_rfl
theorem wnil {Q : PV → PHeap → Prop} {f : PV → Res} (hf : W (f (.bool true)) Q) : W ((binP Tryd.prog .eql 23 .nilsl .nilsl).bind f) Q := wbd (by simp [binP, tySlB]) hf
theorem wnilF {Q : PV → PHeap → Prop} {f : PV → Res} {i o l : Nat} (hf : W (f (.bool false)) Q) : W ((binP Tryd.prog .eql 23 (.sl i o l) .nilsl).bind f) Q := wbd (by simp [binP, tySlB]) hf

end Go.Proofs.YtkbnngklbfnkiaaDoor

/- The program's search: structs and a map on the interpreter's heap; the sets' joining; what stands after a move. -/
namespace Go.Proofs.YtkbnngklbfnkiaaDoor
open Go Go.Ip G

/-! ### objects by themselves, and what keeps all but one -/
def At (h : PHeap) (id : Nat) (l : List PV) : Prop := h[id]? = some (.own 1 l)
theorem At.lt {h : PHeap} {id : Nat} {l : List PV} (a : At h id l) : id < h.length := (List.getElem?_eq_some_iff.1 a).1
/-- All is as it was but the object m, and what is behind. -/
def KB (m : Nat) (h h' : PHeap) : Prop := h.length ≤ h'.length ∧ ∀ i, i < h.length → i ≠ m → h'[i]? = h[i]?
theorem KB.refl (m : Nat) (h : PHeap) : KB m h h := ⟨Nat.le_refl _, fun _ _ _ => rfl⟩
theorem KB.trans {m : Nat} {a b c : PHeap} (h : KB m a b) (k : KB m b c) : KB m a c := ⟨Nat.le_trans h.1 k.1, fun i hi hn => (k.2 i (Nat.lt_of_lt_of_le hi h.1) hn).trans (h.2 i hi hn)⟩
theorem Keep.kb {m : Nat} {a b : PHeap} (h : Keep a.length a b) : KB m a b := ⟨h.1, fun i hi _ => h.2 i hi⟩
theorem KB.keep {m n : Nat} {a b : PHeap} (h : KB m a b) (hm : n ≤ m) (hn : n ≤ a.length) : Keep n a b := ⟨h.1, fun i hi => h.2 i (Nat.lt_of_lt_of_le hi hn) (by omega)⟩
theorem At.keep {h h' : PHeap} {id : Nat} {l : List PV} (a : At h id l) (k : Keep h.length h h') : At h' id l := by unfold At; rw [k.2 id a.lt]; exact a
theorem At.kb {h h' : PHeap} {id m : Nat} {l : List PV} (a : At h id l) (k : KB m h h') (hn : id ≠ m) : At h' id l := by unfold At; rw [k.2 id a.lt hn]; exact a
def MapAt (h : PHeap) (m : Nat) (es : List (PV × PV)) : Prop := h[m]? = some (.mp es)
theorem MapAt.lt {h : PHeap} {m : Nat} {es : List (PV × PV)} (a : MapAt h m es) : m < h.length := (List.getElem?_eq_some_iff.1 a).1
theorem MapAt.keep {h h' : PHeap} {m : Nat} {es : List (PV × PV)} (a : MapAt h m es) (k : Keep h.length h h') : MapAt h' m es := by unfold MapAt; rw [k.2 m a.lt]; exact a
theorem MapAt.kb {h h' : PHeap} {id m : Nat} {es : List (PV × PV)} (a : MapAt h m es) (k : KB id h h') (hn : m ≠ id) : MapAt h' m es := by unfold MapAt; rw [k.2 m a.lt hn]; exact a
theorem At.ne {h : PHeap} {id m : Nat} {l : List PV} {es : List (PV × PV)} (a : At h id l) (b : MapAt h m es) : id ≠ m := by
  intro e; subst e; unfold At at a; unfold MapAt at b; rw [a] at b; cases b
theorem Fix.kb {b m : Nat} {h h' : PHeap} {p : PV} {xs : List Int} (s : Fix b h p xs) (k : KB m h h') (hb : b ≤ m) (hb2 : b ≤ h.length) : Fix b h' p xs := s.keep (k.keep hb hb2)

section
variable {Q : PV → PHeap → Prop} {h : PHeap}
/-- A new object. -/
theorem wnew {l : List PV} {x : Res} {f : PV × PHeap → Res} (hx : x = some (.ptr h.length 0, h ++ [.own 1 l])) (hf : ∀ h' id, At h' id l → Keep h.length h h' → h.length ≤ id → W (f (.ptr id 0, h')) Q) : W (x.bind f) Q := by
  rw [hx]
  exact hf _ _ (by unfold At; simp) (Keep.append _ _ _ (Nat.le_refl _)) (Nat.le_refl _)
/-- An object is written to. -/
theorem put_at {id : Nat} {l l' : List PV} (a : At h id l) : At (h.set id (.own 1 l')) id l' ∧ KB id h (h.set id (.own 1 l')) := by
  refine ⟨by unfold At; rw [List.getElem?_set_self a.lt], by simp, fun i _ hn => List.getElem?_set_ne (by omega)⟩
end

/-! ### types -/
theorem tyStA : isAggT Tryd.prog 58 = some true := by kernel_rfl
theorem tySt4 : sizeT Tryd.prog 58 = some 4 := by kernel_rfl
theorem tyStZ : zeroCellsT Tryd.prog 58 = some [.int .i64 0, .int .i64 0, .int .i64 0, .int .i64 0] := by kernel_rfl
theorem tyA3 : Tryd.prog.underlying 56 = some (.array 3 3) := by kernel_rfl
theorem tyA9 : Tryd.prog.underlying 68 = some (.array 9 3) := by kernel_rfl
theorem tyMp : Tryd.prog.underlying 67 = some (.map 58 3) := by kernel_rfl
theorem tyMpA : isAggT Tryd.prog 67 = some false := by kernel_rfl
theorem fSt0 (id : Nat) : fieldAddrP Tryd.prog 58 (.ptr id 0) 0 = some (.ptr id 0) := by kernel_rfl
theorem fSt1 (id : Nat) : fieldAddrP Tryd.prog 58 (.ptr id 0) 1 = some (.ptr id 3) := by kernel_rfl
theorem fs0 (id : Nat) : fieldAddrP Tryd.prog 70 (.ptr id 0) 0 = some (.ptr id 0) := by kernel_rfl
theorem fs1 (id : Nat) : fieldAddrP Tryd.prog 70 (.ptr id 0) 1 = some (.ptr id 9) := by kernel_rfl
theorem fs2 (id : Nat) : fieldAddrP Tryd.prog 70 (.ptr id 0) 2 = some (.ptr id 12) := by kernel_rfl
theorem fs3 (id : Nat) : fieldAddrP Tryd.prog 70 (.ptr id 0) 3 = some (.ptr id 15) := by kernel_rfl
theorem ia3 (id o i : Nat) (hi : i < 3) : indexAddrP Tryd.prog 56 (.ptr id o) (.int .i64 (i : Int)) = some (.ptr id (o + i)) := by simp [indexAddrP, tyA3, tySize]; omega
theorem ia9 (id o i : Nat) (hi : i < 9) : indexAddrP Tryd.prog 68 (.ptr id o) (.int .i64 (i : Int)) = some (.ptr id (o + i)) := by simp [indexAddrP, tyA9, tySize]; omega
theorem ld1 {h : PHeap} {id i : Nat} {l : List PV} {v : PV} (a : At h id l) (hv : l[i]? = some v) : loadP Tryd.prog 3 (.ptr id i) h = some v := by
  simp [loadP, tyAgg, cellsAt, show h[id]? = some (.own 1 l) from a, PObj.get, hv]
theorem ldM {h : PHeap} {id i : Nat} {l : List PV} {v : PV} (a : At h id l) (hv : l[i]? = some v) : loadP Tryd.prog 67 (.ptr id i) h = some v := by
  simp [loadP, tyMpA, cellsAt, show h[id]? = some (.own 1 l) from a, PObj.get, hv]
theorem st1 {h : PHeap} {id i : Nat} {l : List PV} {x : Int} (a : At h id l) (hi : i < l.length) : storeP Tryd.prog 3 (.ptr id i) (.int .i64 x) h = some (h.set id (.own 1 (l.set i (.int .i64 x)))) := by
  simp [storeP, show h[id]? = some (.own 1 l) from a, PV.cells, tySize, setCells]; omega

/-! ### what stands -/
def stC (f a b t : Nat) : List PV := [.int .i64 (f : Int), .int .i64 (a : Int), .int .i64 (b : Int), .int .i64 (t : Int)]
def stP (f a b t : Nat) : PV := .agg (stC f a b t)
theorem ldS {h : PHeap} {id f a b t : Nat} (o : At h id (stC f a b t)) : loadP Tryd.prog 58 (.ptr id 0) h = some (stP f a b t) := by
  simp [loadP, tyStA, tySt4, cellsAt, show h[id]? = some (.own 1 (stC f a b t)) from o, PObj.get, stC, stP]
theorem boxS (h : PHeap) (f a b t : Nat) : boxP (stP f a b t) h = some (.ptr h.length 0, h ++ [.own 1 (stC f a b t)]) := by simp [boxP, stP, stC, PV.cells, PV.oneCell]
theorem alS (h : PHeap) : allocP Tryd.prog 58 h = some (.ptr h.length 0, h ++ [.own 1 (stC 0 0 0 0)]) := by simp [allocP, tyStZ, stC]
theorem stS {h : PHeap} {id f a b t f' a' b' t' : Nat} (o : At h id (stC f' a' b' t')) : storeP Tryd.prog 58 (.ptr id 0) (stP f a b t) h = some (h.set id (.own 1 (stC f a b t))) := by
  simp [storeP, show h[id]? = some (.own 1 (stC f' a' b' t')) from o, stP, stC, PV.cells, PV.oneCell, tySt4, setCells]
theorem plainS {f a b t : Nat} : plainEq (stP f a b t) (stP f a b t) = true := plain_agg4

section
variable {Q : PV → PHeap → Prop} {h : PHeap} {id f a b t : Nat}
theorem wboxS {F : PV × PHeap → Res} (hf : ∀ h' id, At h' id (stC f a b t) → Keep h.length h h' → h.length ≤ id → W (F (.ptr id 0, h')) Q) : W ((boxP (stP f a b t) h).bind F) Q := wnew (boxS h f a b t) hf
theorem walS {F : PV × PHeap → Res} (hf : ∀ h' id, At h' id (stC 0 0 0 0) → Keep h.length h h' → h.length ≤ id → W (F (.ptr id 0, h')) Q) : W ((allocP Tryd.prog 58 h).bind F) Q := wnew (alS h) hf
theorem wstS {f' a' b' t' : Nat} (o : At h id (stC f' a' b' t')) {F : PHeap → Res} (hf : ∀ h', At h' id (stC f a b t) → KB id h h' → W (F h') Q) : W ((storeP Tryd.prog 58 (.ptr id 0) (stP f a b t) h).bind F) Q := by
  rw [stS o]; exact hf _ (put_at o).1 (put_at o).2
theorem wst1 {i : Nat} {l : List PV} {x : Int} (o : At h id l) (hi : i < l.length) {F : PHeap → Res} (hf : ∀ h', At h' id (l.set i (.int .i64 x)) → KB id h h' → W (F h') Q) : W ((storeP Tryd.prog 3 (.ptr id i) (.int .i64 x) h).bind F) Q := by
  rw [st1 o hi]; exact hf _ (put_at o).1 (put_at o).2
theorem wia3 {o i : Nat} (hi : i < 3) {F : PV → Res} (hf : W (F (.ptr id (o + i))) Q) : W ((indexAddrP Tryd.prog 56 (.ptr id o) (.int .i64 (i : Int))).bind F) Q := wbd (ia3 id o i hi) hf
theorem wia9 {o i : Nat} (hi : i < 9) {F : PV → Res} (hf : W (F (.ptr id (o + i))) Q) : W ((indexAddrP Tryd.prog 68 (.ptr id o) (.int .i64 (i : Int))).bind F) Q := wbd (ia9 id o i hi) hf
theorem wresSt {F : PV → Res} (hf : W (F (stP f a b t)) Q) : W ((resV (stP f a b t)).bind F) Q := hf
end

variable (g : Nat → PV) (lf n : Nat)

theorem exchanged_W (N : Nat) (hN : 1 ≤ N) (h : PHeap) {T : Nat} (hT : T = 1 ∨ T = 2) : CL g lf N fn_impl_exchanged [.int .i64 (T : Int)] h = some (.int .i64 ((3 - T : Nat) : Int), h) := by
  obtain ⟨n, rfl⟩ : ∃ n, N = n + 1 := ⟨N - 1, by omega⟩
  have : W (CL g lf (n + 1) fn_impl_exchanged [.int .i64 (T : Int)] h) fun v h' => v = .int .i64 ((3 - T : Nat) : Int) ∧ h' = h := by
    rw [impl_exchanged.call_eq]
    unfold impl_exchanged.main
    simp only [env_bin]
    rcases hT with rfl | rfl
    · repeat (first | with_reducible refine wT ?_ | with_reducible refine wrI ?_ | with_reducible refine weqlT (by omega) ?_)
      exact W.ret ⟨rfl, rfl⟩
    · repeat (first | with_reducible refine wT ?_ | with_reducible refine wF ?_ | with_reducible refine wrI ?_ | with_reducible refine weqlT (by omega) ?_ | with_reducible refine weqlF (by omega) ?_)
      exact W.ret ⟨rfl, rfl⟩
  obtain ⟨_, _, e, rfl, rfl⟩ := this
  exact e

theorem Keep.kbs {n m : Nat} {a b c : PHeap} (k : Keep n a b) (hn : n ≤ a.length) (k' : KB m b c) (hm : n ≤ m) : Keep n a c := k.trans (k'.keep hm (Nat.le_trans hn k.1))
theorem wia30 {Q : PV → PHeap → Prop} {id o : Nat} {F : PV → Res} (hf : W (F (.ptr id (o + 0))) Q) : W ((indexAddrP Tryd.prog 56 (.ptr id o) (.int .i64 0)).bind F) Q := wbd (ia3 id o 0 (by decide)) hf

theorem after_W {f a b t k : Nat} (hf : f < 2 ^ 9) (ha : a < 2 ^ 9) (hb : b < 2 ^ 9) (hk : k < 9) (ht : t = 1 ∨ t = 2) (N : Nat) (hN : 2 ≤ N) (h : PHeap) :
    W (CL g lf N fn_impl_standing_after [stP f a b t, .int .i64 (k : Int)] h) fun v h' => v = stP (without f k) (putA t k a) (putB t k b) (3 - t) ∧ Keep h.length h h' := by
  obtain ⟨n, rfl⟩ : ∃ n, N = n + 1 := ⟨N - 1, by omega⟩
  have hsl := shl_lt hk
  have e1 : ∀ h, CL g lf n fn_impl_exchanged [.int .i64 (t : Int)] h = some (.int .i64 ((3 - t : Nat) : Int), h) := fun h => exchanged_W g lf n (by omega) h ht
  rw [impl_standing_after.call_eq]
  unfold impl_standing_after.main
  simp only [env_C, env_alloc, env_box, env_load, env_store, env_bin, env_fieldAddr, env_indexAddr]
  refine wboxS fun h1 id o1 k1 l1 => ?_
  dsimp only
  refine walS fun h2 id2 o2 k2 l2 => ?_
  have o1' := o1.keep k2
  have hne : id2 ≠ id := by have := o1.lt; omega
  have kk2 : Keep h.length h h2 := k1.trans (k2.mono k1.1)
  repeat (first | (with_reducible refine wbd (fSt0 _) ?_) | (with_reducible refine wia30 ?_) | (with_reducible refine wbd (ld1 (by assumption) rfl) ?_) | with_reducible refine wshl (by omega) ?_ | with_reducible refine wandNot (by omega) (by omega) ?_ | dsimp only)
  refine wst1 o1' (show 0 + 0 < 4 by decide) fun h3 o3 k3 => ?_
  have o3 : At h3 id (stC (without f k) a b t) := o3
  have o23 := o2.kb k3 hne
  rcases ht with rfl | rfl
  · repeat (first | (with_reducible refine wbd (fSt0 _) ?_) | (with_reducible refine wbd (fSt1 _) ?_) | (with_reducible refine wia3 (by omega) ?_) | (with_reducible refine wbd (ld1 (by assumption) rfl) ?_) | with_reducible refine wshl (by omega) ?_ | with_reducible refine wor (by omega) (by omega) ?_)
    refine wst1 o3 (show 0 + 1 < 4 by decide) fun h4 o4 k4 => ?_
    have o4 : At h4 id (stC (without f k) (a ||| 1 <<< k) b 1) := o4
    have o24 := o23.kb k4 hne
    have e2 := e1 h4
    repeat (first | with_reducible refine wbd (by assumption) ?_ | (with_reducible refine wbd (fSt1 _) ?_) | (with_reducible refine wbd (ld1 (by assumption) rfl) ?_) | dsimp only)
    refine wst1 o4 (show 3 < 4 by decide) fun h5 o5 k5 => ?_
    have o5 : At h5 id (stC (without f k) (a ||| 1 <<< k) b (3 - 1)) := o5
    have o25 := o24.kb k5 hne
    repeat (first | (with_reducible refine wbd (ldS (by assumption)) ?_))
    refine wstS o25 fun h6 o6 k6 => ?_
    repeat (first | (with_reducible refine wbd (ldS (by assumption)) ?_))
    exact W.ret ⟨rfl, (((kk2.kbs (Nat.le_refl _) k3 l1).kbs (Nat.le_refl _) k4 l1).kbs (Nat.le_refl _) k5 l1).kbs (Nat.le_refl _) k6 (Nat.le_trans k1.1 l2)⟩
  · repeat (first | (with_reducible refine wbd (fSt0 _) ?_) | (with_reducible refine wbd (fSt1 _) ?_) | (with_reducible refine wia3 (by omega) ?_) | (with_reducible refine wbd (ld1 (by assumption) rfl) ?_) | with_reducible refine wshl (by omega) ?_ | with_reducible refine wor (by omega) (by omega) ?_)
    refine wst1 o3 (show 0 + 2 < 4 by decide) fun h4 o4 k4 => ?_
    have o4 : At h4 id (stC (without f k) a (b ||| 1 <<< k) 2) := o4
    have o24 := o23.kb k4 hne
    have e2 := e1 h4
    repeat (first | with_reducible refine wbd (by assumption) ?_ | (with_reducible refine wbd (fSt1 _) ?_) | (with_reducible refine wbd (ld1 (by assumption) rfl) ?_) | dsimp only)
    refine wst1 o4 (show 3 < 4 by decide) fun h5 o5 k5 => ?_
    have o5 : At h5 id (stC (without f k) a (b ||| 1 <<< k) (3 - 2)) := o5
    have o25 := o24.kb k5 hne
    repeat (first | (with_reducible refine wbd (ldS (by assumption)) ?_))
    refine wstS o25 fun h6 o6 k6 => ?_
    repeat (first | (with_reducible refine wbd (ldS (by assumption)) ?_))
    exact W.ret ⟨rfl, (((kk2.kbs (Nat.le_refl _) k3 l1).kbs (Nat.le_refl _) k4 l1).kbs (Nat.le_refl _) k5 l1).kbs (Nat.le_refl _) k6 (Nat.le_trans k1.1 l2)⟩

/-! ### a board's search -/
def nearV (R C j : Nat) : Nat := if j < R * C then wideN R C (1 <<< j) else 0
def srchV (R C : Nat) : List Nat := (List.range 9).map (nearV R C) ++ [0, sideN R C 1 false, sideN R C 2 false, 0, sideN R C 1 true, sideN R C 2 true]
def srchC (R C m : Nat) : List PV := (srchV R C).map (fun x : Nat => .int .i64 (x : Int)) ++ [.mapv m]
theorem srch_near (R C m k : Nat) (hk : k < 9) : (srchC R C m)[0 + k]? = some (.int .i64 (nearV R C k : Int)) := by
  rw [Nat.zero_add]
  unfold srchC srchV
  rw [List.map_append, List.append_assoc, List.getElem?_append_left (by simp; omega)]
  simp [hk]
theorem srch_first (R C m : Nat) {P : Nat} (hP : P = 1 ∨ P = 2) : (srchC R C m)[9 + P]? = some (.int .i64 (sideN R C P false : Int)) := by
  rcases hP with rfl | rfl <;> rfl
theorem srch_last (R C m : Nat) {P : Nat} (hP : P = 1 ∨ P = 2) : (srchC R C m)[12 + P]? = some (.int .i64 (sideN R C P true : Int)) := by
  rcases hP with rfl | rfl <;> rfl
theorem srch_map (R C m : Nat) : (srchC R C m)[15]? = some (.mapv m) := rfl

theorem nearV_lt {R C j : Nat} (hB : BoardOf R C) (hj : j < 9) : nearV R C j < 2 ^ 9 := by
  unfold nearV; split
  · exact wide_lt hB (shl_lt hj)
  · decide
theorem nearV_bit {R C k j : Nat} (hB : BoardOf R C) (hk : k < R * C) : (nearV R C k).testBit j = true ↔ j = k ∨ Adj (masksN R C) k j := by
  unfold nearV
  rw [if_pos hk, wide_bit hB, one_bit]
  constructor
  · rintro (h | ⟨i, h1, h2⟩)
    · exact .inl (by simpa using h)
    · rw [one_bit] at h1
      have : i = k := by simpa using h1
      exact .inr (this ▸ h2)
  · rintro (h | h)
    · exact .inl (by simpa using h)
    · exact .inr ⟨k, by rw [one_bit]; simp, h⟩
theorem bit_lt {x n j : Nat} (hx : x < 2 ^ n) (hj : x.testBit j = true) : j < n := by
  apply Classical.byContradiction
  intro hn
  rw [Nat.testBit_lt_two_pow (Nat.lt_of_lt_of_le hx (Nat.pow_le_pow_right (by decide) (by omega)))] at hj; cases hj

theorem joins_W {R C P own : Nat} (hB : BoardOf R C) (hP : P = 1 ∨ P = 2) (hown : own < 2 ^ (R * C)) (hbig : Big g) {h : PHeap} {s m : Nat} (hs : At h s (srchC R C m)) (ht : Tab64 g h) (N : Nat) (hN : 4 ≤ N) (hlf : 1000 < lf) :
    CL g lf N fn_impl_search_joins [.ptr s 0, .int .i64 (own : Int), .int .i64 (P : Int)] h = some (.bool (joinsN R C P own), h) := by
  obtain ⟨n, rfl⟩ : ∃ n, N = n + 1 := ⟨N - 1, by omega⟩
  have h9 := hB.2.2.2.2
  have hown9 : own < 2 ^ 9 := Nat.lt_of_lt_of_le hown (Nat.pow_le_pow_right (by decide) h9)
  have hP3 : P < 3 := by omega
  have s1 := sideN_lt (P := P) (last := false) hB
  have s2 := sideN_lt (P := P) (last := true) hB
  have hS9 : own &&& sideN R C P false < 2 ^ 9 := Nat.and_lt_two_pow _ s1
  have : W (CL g lf (n + 1) fn_impl_search_joins [.ptr s 0, .int .i64 (own : Int), .int .i64 (P : Int)] h) fun v h' => v = .bool (joinsN R C P own) ∧ h' = h := by
    rw [impl_search_joins.call_eq]
    unfold impl_search_joins.main
    simp only [env_lf, env_load, env_ptr, env_bin, env_fieldAddr, env_indexAddr]
    repeat (first | with_reducible refine wptr ?_ | (with_reducible refine wbd (fs1 _) ?_) | (with_reducible refine wia3 (by omega) ?_) | (with_reducible refine wbd (ld1 (by assumption) (srch_first _ _ _ hP)) ?_) | with_reducible refine wand (by omega) (by omega) ?_)
    obtain ⟨S, hS⟩ : ∃ S, S = own &&& sideN R C P false := ⟨_, rfl⟩
    rw [← hS] at hS9 ⊢
    have hSo : ∀ j, S.testBit j = true → own.testBit j = true := fun j hj => by
      rw [hS, Nat.testBit_and, Bool.and_eq_true] at hj; exact hj.1
    refine loopW (fun m' st => ∃ X w : Nat, st = impl_search_joins.st0 (.ptr s 0) (.int .i64 (own : Int)) (.int .i64 (P : Int)) (.int .i64 (X : Int)) (.int .i64 (w : Int)) h ∧ X < 2 ^ 9 ∧ (∀ j, w.testBit j = true → X.testBit j = true) ∧ (∀ j, X.testBit j = true → own.testBit j = true) ∧
      (∀ j, S.testBit j = true → X.testBit j = true) ∧ (∀ j, X.testBit j = true → Reach (masksN R C) (S ||| own) S j) ∧ (∀ k j, X.testBit k = true → w.testBit k = false → Adj (masksN R C) k j → own.testBit j = true → X.testBit j = true) ∧ m' = (512 - X) + (if w = 0 then 0 else 1)) ?_ lf (512 - S + (if S = 0 then 0 else 1)) _ (by split <;> omega)
      ⟨S, S, rfl, hS9, fun _ h => h, hSo, fun _ h => h, fun j hj => .start hj (by rw [Nat.testBit_or, hj]; rfl), fun k j h1 h2 _ _ => (by rw [h1] at h2; cases h2), rfl⟩
    rintro n1 m1 st ⟨X, w, rfl, hX, hw, hXo, hSX, hXr, hc, hm⟩ next
    rw [impl_search_joins.body0_eq]
    unfold impl_search_joins.body0
    simp only [env_lf, env_bin]
    by_cases e : w = 0
    · subst e
      repeat (first | with_reducible refine wF ?_ | with_reducible refine wptr ?_ | (with_reducible refine wbd (fs2 _) ?_) | (with_reducible refine wia3 (by omega) ?_) | (with_reducible refine wbd (ld1 (by assumption) (srch_last _ _ _ hP)) ?_) | with_reducible refine wand (by omega) (by omega) ?_ | with_reducible refine wneqF (by omega) ?_ | rw [kLoop_exit] | rw [impl_search_joins.after0_se0_0_1_2_7_8_21] | simp only [env_C, env_g, env_lf, env_pick, env_alloc, env_box, env_build, env_buildSlice, env_load, env_store, env_ptr, env_bin, env_un, env_conv, env_make, env_slice, env_fieldAddr, env_field, env_indexAddr, env_index, env_extract, env_len, env_append, env_max, env_min, env_makeMap, env_lookup, env_update])
      have hXg : X = growN (masksN R C) own (sideN R C P false) := by
        rw [grown_is hS9 hown9 hSX hXr fun k j h1 h2 h3 => hc k j h1 (Nat.zero_testBit _) h2 h3, hS, Nat.and_comm]
        exact grown_in
      unfold joinsN
      rw [← hXg]
      refine wneq (fun e => ?_) (fun e => ?_)
      · repeat (first | with_reducible refine wrB ?_)
        refine W.ret ⟨?_, rfl⟩
        rw [decide_eq_false (by omega)]; rfl
      · repeat (first | with_reducible refine wrB ?_)
        refine W.ret ⟨?_, rfl⟩
        rw [decide_eq_true (by omega)]; rfl
    · have hw9 : w < 2 ^ 9 := Nat.lt_of_le_of_lt (sub_le hw) hX
      have hwc : ∀ k, w.testBit k = true → k < R * C := fun k hk => bit_lt hown (hXo k (hw k hk))
      repeat (first | with_reducible refine wT ?_ | with_reducible refine wneqT (by omega) ?_)
      refine loopW (fun m' st => ∃ wd r : Nat, st = impl_search_joins.st1 (.ptr s 0) (.int .i64 (own : Int)) (.int .i64 (P : Int)) (.int .i64 (X : Int)) (.int .i64 (wd : Int)) (.int .i64 (r : Int)) h ∧ wd < 2 ^ 9 ∧ r < 2 ^ 9 ∧ (∀ j, r.testBit j = true → w.testBit j = true) ∧
        (∀ j, wd.testBit j = true ↔ ∃ k, w.testBit k = true ∧ r.testBit k = false ∧ (nearV R C k).testBit j = true) ∧ m' = r) ?_ lf w _ (by omega) ⟨0, w, rfl, by decide, hw9, fun _ h => h, fun j => ⟨fun h => (by rw [Nat.zero_testBit] at h; cases h), fun ⟨k, h1, h2, _⟩ => (by rw [h1] at h2; cases h2)⟩, rfl⟩
      rintro n2 m2 st ⟨wd, r, rfl, hwd, hr, hrw, hwb, hm2⟩ next2
      rw [impl_search_joins.body1_eq]
      unfold impl_search_joins.body1
      simp only [env_C, env_load, env_ptr, env_bin, env_fieldAddr, env_indexAddr]
      by_cases e2 : r = 0
      · subst e2
        have hal : wd &&& own < 2 ^ 9 := Nat.and_lt_two_pow _ hown9
        have hml : minusN (wd &&& own) X < 2 ^ 9 := minusN_lt hal
        repeat (first | with_reducible refine wF ?_ | with_reducible refine wand (by omega) (by omega) ?_ | with_reducible refine wor (by omega) (by omega) ?_ | with_reducible refine wandNot (by omega) (by omega) ?_ | with_reducible refine wneqF (by omega) ?_ | rw [kLoop_exit] | rw [impl_search_joins.after1_se2_0_1_2_7_9_10_24] | simp only [env_C, env_g, env_lf, env_pick, env_alloc, env_box, env_build, env_buildSlice, env_load, env_store, env_ptr, env_bin, env_un, env_conv, env_make, env_slice, env_fieldAddr, env_field, env_indexAddr, env_index, env_extract, env_len, env_append, env_max, env_min, env_makeMap, env_lookup, env_update])
        obtain ⟨w', hw'⟩ : ∃ w', w' = minusN (wd &&& own) X := ⟨_, rfl⟩
        have hb : ∀ j, w'.testBit j = true ↔ (w.testBit j = true ∨ ∃ k, w.testBit k = true ∧ Adj (masksN R C) k j) ∧ own.testBit j = true ∧ X.testBit j = false := fun j => by
          have hwj : wd.testBit j = true ↔ (w.testBit j = true ∨ ∃ k, w.testBit k = true ∧ Adj (masksN R C) k j) := by
            rw [hwb]
            constructor
            · rintro ⟨k, h1, _, h2⟩
              rcases (nearV_bit hB (hwc k h1)).1 h2 with rfl | h3
              · exact .inl h1
              · exact .inr ⟨k, h1, h3⟩
            · rintro (h1 | ⟨k, h1, h3⟩)
              · exact ⟨j, h1, Nat.zero_testBit _, (nearV_bit hB (hwc j h1)).2 (.inl rfl)⟩
              · exact ⟨k, h1, Nat.zero_testBit _, (nearV_bit hB (hwc k h1)).2 (.inr h3)⟩
          rw [← hwj, hw', minusN_bit, Nat.testBit_and]; cases wd.testBit j <;> cases own.testBit j <;> cases X.testBit j <;> simp
        rw [← hw'] at hml ⊢
        have hor : X ||| w' < 2 ^ 9 := Nat.or_lt_two_pow hX hml
        have hle : X ≤ X ||| w' := Nat.left_le_or
        have hne : w' ≠ 0 → X ≠ X ||| w' := fun hz he => by
          obtain ⟨j, hj⟩ := bit_of_ne hz
          have h1 := ((hb j).1 hj).2.2
          rw [he, Nat.testBit_or, hj, Bool.or_true] at h1; cases h1
        refine next _ _ ?_ ⟨X ||| w', w', rfl, hor, fun j hj => by rw [Nat.testBit_or, hj, Bool.or_true], fun j hj => ?_, fun j hj => by rw [Nat.testBit_or, hSX j hj, Bool.true_or], ?_, ?_, rfl⟩
        · rw [hm, if_neg e]
          by_cases e' : w' = 0
          · rw [if_pos e']; omega
          · rw [if_neg e']; have := hne e'; omega
        · rw [Nat.testBit_or, Bool.or_eq_true] at hj
          rcases hj with hj | hj
          · exact hXo j hj
          · exact ((hb j).1 hj).2.1
        · intro j hj
          rw [Nat.testBit_or, Bool.or_eq_true] at hj
          rcases hj with hj | hj
          · exact hXr j hj
          · obtain ⟨h1 | ⟨k, h1, h2⟩, h3, h4⟩ := (hb j).1 hj
            · rw [hw j h1] at h4; cases h4
            · exact .step (hXr k (hw k h1)) h2 (by rw [Nat.testBit_or, h3, Bool.or_true])
        · intro k j h1 h2 h3 h4
          rw [Nat.testBit_or, h2, Bool.or_false] at h1
          rw [Nat.testBit_or]
          by_cases hk : w.testBit k = true
          · cases hx : X.testBit j with
            | true => rfl
            | false => rw [(hb j).2 ⟨.inr ⟨k, hk, h3⟩, h4, hx⟩]; rfl
          · rw [hc k j h1 (by simpa using hk) h3 h4]; rfl
      · have el := leastIn_W g lf hr e2 hbig ht n (by omega)
        obtain ⟨l1, l2, l3, l4⟩ := least_ok hr e2
        obtain ⟨d1, d2⟩ := f_drop hr e2
        have hlt := without_less hr e2
        have hwl := without_lt9 (k := leastN r) hr
        obtain ⟨k, hk⟩ : ∃ k, k = leastN r := ⟨_, rfl⟩
        rw [← hk] at el l1 l2 d2 hlt hwl
        have hnv := nearV_lt hB l2
        have hwr := hrw k l1
        repeat (first | with_reducible refine wT ?_ | with_reducible refine wptr ?_ | with_reducible refine wbd (by assumption) ?_ | (with_reducible refine wbd (fs0 _) ?_) | (with_reducible refine wia9 l2 ?_) | (with_reducible refine wbd (ld1 (by assumption) (srch_near _ _ _ _ l2)) ?_) | with_reducible refine wor (by omega) (by omega) ?_ | with_reducible refine wneqT (by omega) ?_ | dsimp only)
        refine next2 _ _ (hm2 ▸ hlt) ⟨_, _, rfl, Nat.or_lt_two_pow hwd hnv, hwl, fun j hj => ?_, fun j => ?_, rfl⟩
        · rw [without_bit, Bool.and_eq_true] at hj; exact hrw j hj.1
        · rw [Nat.testBit_or, Bool.or_eq_true, hwb]
          constructor
          · rintro (⟨i, h1, h2, h3⟩ | h1)
            · exact ⟨i, h1, by rw [without_bit, h2]; rfl, h3⟩
            · exact ⟨k, hwr, by rw [without_bit]; simp, h1⟩
          · rintro ⟨i, h1, h2, h3⟩
            by_cases hik : i = k
            · subst hik; exact .inr h3
            · rw [without_bit] at h2
              simp only [ne_eq, hik, not_false_eq_true, decide_true, Bool.and_true] at h2
              exact .inl ⟨i, h1, h2, h3⟩
  obtain ⟨_, _, e, rfl, rfl⟩ := this
  exact e

def whoN (R C a b : Nat) : Nat := if joinsN R C 1 a = true then 1 else if joinsN R C 2 b = true then 2 else 0

theorem joined_W {R C f a b t : Nat} (hB : BoardOf R C) (hp : Pos R C a b) (hbig : Big g) {h : PHeap} {s m : Nat} (hs : At h s (srchC R C m)) (ht : Tab64 g h) (N : Nat) (hN : 5 ≤ N) (hlf : 1000 < lf) :
    ∃ h', CL g lf N fn_impl_search_joined [.ptr s 0, stP f a b t] h = some (.int .i64 (whoN R C a b : Int), h') ∧ Keep h.length h h' := by
  obtain ⟨n, rfl⟩ : ∃ n, N = n + 1 := ⟨N - 1, by omega⟩
  have : W (CL g lf (n + 1) fn_impl_search_joined [.ptr s 0, stP f a b t] h) fun v h' => v = .int .i64 (whoN R C a b : Int) ∧ Keep h.length h h' := by
    rw [impl_search_joined.call_eq]
    unfold impl_search_joined.main
    simp only [env_lf, env_box]
    refine wboxS fun h1 id o1 k1 l1 => ?_
    have hs1 := hs.keep k1
    have e1 := joins_W g lf hB (P := 1) (.inl rfl) hp.1 hbig hs1 (ht.keep k1) n (by omega) hlf
    have e2 := joins_W g lf hB (P := 2) (.inr rfl) hp.2.1 hbig hs1 (ht.keep k1) n (by omega) hlf
    refine loopW (fun m' st => ∃ P : Nat, st = impl_search_joined.st0 (.ptr s 0) (.ptr id 0) (.int .i64 (P : Int)) h1 ∧ P + m' = 3 ∧ 1 ≤ P ∧ (2 ≤ P → joinsN R C 1 a = false) ∧ (3 ≤ P → joinsN R C 2 b = false)) ?_ lf 2 _ (by omega) ⟨1, rfl, rfl, by decide, by omega, by omega⟩
    rintro n1 m1 st ⟨P, rfl, hm, hP1, j1, j2⟩ next
    rw [impl_search_joined.body0_eq]
    unfold impl_search_joined.body0
    simp only [env_C, env_load, env_bin, env_fieldAddr, env_indexAddr]
    have hP : P = 1 ∨ P = 2 ∨ P = 3 := by omega
    rcases hP with rfl | rfl | rfl
    · cases hj : joinsN R C 1 a with
      | true =>
        rw [hj] at e1
        repeat (first | with_reducible refine wT ?_ | with_reducible refine wrI ?_ | with_reducible refine wbd (by assumption) ?_ | (with_reducible refine wbd (fSt0 _) ?_) | (with_reducible refine wia3 (by omega) ?_) | (with_reducible refine wbd (ld1 (by assumption) rfl) ?_) | with_reducible refine wleqT (by omega) ?_ | rw [kLoop_ret] | rw [impl_search_joined.K0_ret] | rw [impl_search_joined.top_sr_4] | dsimp only)
        exact W.ret ⟨by unfold whoN; rw [hj]; rfl, k1⟩
      | false =>
        rw [hj] at e1
        repeat (first | with_reducible refine wT ?_ | with_reducible refine wF ?_ | with_reducible refine wbd (by assumption) ?_ | (with_reducible refine wbd (fSt0 _) ?_) | (with_reducible refine wia3 (by omega) ?_) | (with_reducible refine wbd (ld1 (by assumption) rfl) ?_) | with_reducible refine wadd1 (by omega) ?_ | with_reducible refine wleqT (by omega) ?_ | dsimp only)
        exact next _ _ (show 1 < m1 by omega) ⟨2, rfl, rfl, by decide, fun _ => hj, by omega⟩
    · cases hj : joinsN R C 2 b with
      | true =>
        rw [hj] at e2
        repeat (first | with_reducible refine wT ?_ | with_reducible refine wrI ?_ | with_reducible refine wbd (by assumption) ?_ | (with_reducible refine wbd (fSt0 _) ?_) | (with_reducible refine wia3 (by omega) ?_) | (with_reducible refine wbd (ld1 (by assumption) rfl) ?_) | with_reducible refine wleqT (by omega) ?_ | rw [kLoop_ret] | rw [impl_search_joined.K0_ret] | rw [impl_search_joined.top_sr_4] | dsimp only)
        exact W.ret ⟨by unfold whoN; rw [j1 (by decide), hj]; rfl, k1⟩
      | false =>
        rw [hj] at e2
        repeat (first | with_reducible refine wT ?_ | with_reducible refine wF ?_ | with_reducible refine wbd (by assumption) ?_ | (with_reducible refine wbd (fSt0 _) ?_) | (with_reducible refine wia3 (by omega) ?_) | (with_reducible refine wbd (ld1 (by assumption) rfl) ?_) | with_reducible refine wadd1 (by omega) ?_ | with_reducible refine wleqT (by omega) ?_ | dsimp only)
        exact next _ _ (show 0 < m1 by omega) ⟨3, rfl, rfl, by decide, fun _ => j1 (by decide), fun _ => hj⟩
    · repeat (first | with_reducible refine wF ?_ | with_reducible refine wrI ?_ | with_reducible refine wleqF (by omega) ?_ | rw [kLoop_exit] | rw [impl_search_joined.after0_se0_0_3_5_7])
      exact W.ret ⟨by unfold whoN; rw [j1 (by decide), j2 (by decide)]; rfl, k1⟩
  obtain ⟨_, h', e, rfl, k⟩ := this
  exact ⟨h', e, k⟩

end Go.Proofs.YtkbnngklbfnkiaaDoor

/- The program's search with its map: who wins what stands, and by which moves. -/
namespace Go.Proofs.YtkbnngklbfnkiaaDoor
open Go Go.Ip G

/-- What may stand: free cells, stones of both, who is to move. -/
def Stands (R C f a b t : Nat) : Prop := Pos R C a b ∧ f < 2 ^ 9 ∧ (∀ k, f.testBit k = true ↔ k < R * C ∧ (a ||| b).testBit k = false) ∧ (t = 1 ∨ t = 2)
theorem Stands.put {R C f a b t k : Nat} (h : Stands R C f a b t) (hk : f.testBit k = true) : Stands R C (without f k) (putA t k a) (putB t k b) (3 - t) := by
  obtain ⟨h1, h2, h3, h4⟩ := h
  obtain ⟨k1, k2⟩ := (h3 k).1 hk
  refine ⟨h1.put k1 k2, without_lt9 h2, fun j => ?_, by omega⟩
  rw [without_bit, put_bit, Bool.and_eq_true, h3, Bool.or_eq_false_iff]
  simp only [decide_eq_true_eq, decide_eq_false_iff_not]
  exact ⟨fun ⟨⟨a1, a2⟩, a3⟩ => ⟨a1, a2, a3⟩, fun ⟨a1, a2, a3⟩ => ⟨⟨a1, a2⟩, a3⟩⟩

/-- Every entry of the map tells who wins. -/
def Memo (R C : Nat) (es : List (PV × PV)) : Prop := ∀ p ∈ es, ∃ f a b t, Stands R C f a b t ∧ p = (stP f a b t, .int .i64 (winN R C a b t : Int))

theorem eqK_st {f a b t f' a' b' t' : Nat} (h : eqK (stP f a b t) (stP f' a' b' t') = true) : f = f' ∧ a = a' ∧ b = b' ∧ t = t' := by
  simp only [eqK, stP, stC, eqL, eq1, Bool.and_eq_true, decide_eq_true_eq] at h
  omega
theorem memo_find {R C f a b t : Nat} : ∀ {es : List (PV × PV)} {v : PV}, Memo R C es → findM es (stP f a b t) = some v → v = .int .i64 (winN R C a b t : Int)
  | [], v, _, h => by cases h
  | p :: es, v, hm, h => by
    obtain ⟨f', a', b', t', _, rfl⟩ := hm p (by simp)
    unfold findM at h
    cases e : eqK (stP f' a' b' t') (stP f a b t) with
    | true =>
      rw [e] at h
      obtain ⟨_, rfl, rfl, rfl⟩ := eqK_st e
      cases h; rfl
    | false =>
      rw [e] at h
      exact memo_find (fun q hq => hm q (by simp [hq])) h
theorem memo_put {R C f a b t : Nat} (hs : Stands R C f a b t) : ∀ {es : List (PV × PV)}, Memo R C es → Memo R C (putM es (stP f a b t) (.int .i64 (winN R C a b t : Int)))
  | [], _ => fun p hp => by
    simp only [putM, List.mem_singleton] at hp
    exact ⟨f, a, b, t, hs, hp⟩
  | p :: es, hm => by
    obtain ⟨f', a', b', t', hs', rfl⟩ := hm p (by simp)
    have hr : Memo R C es := fun q hq => hm q (by simp [hq])
    unfold putM
    cases e : eqK (stP f' a' b' t') (stP f a b t) with
    | true =>
      obtain ⟨rfl, rfl, rfl, rfl⟩ := eqK_st e
      intro q hq
      rcases List.mem_cons.1 hq with rfl | hq
      · exact ⟨f', a', b', t', hs, rfl⟩
      · exact hr q hq
    | false =>
      intro q hq
      rcases List.mem_cons.1 hq with rfl | hq
      · exact ⟨f', a', b', t', hs', rfl⟩
      · exact memo_put hs hr q hq

/-! ### the keys -/
theorem keyedSt : keyedB Tryd.prog 58 = true := by kernel_rfl
theorem zeroInt : zero1 Tryd.prog 3 = some (.int .i64 0) := by kernel_rfl
theorem stU : Tryd.prog.underlying 58 = some (.struct (Tryd.prog.fieldsOf 58)) := by kernel_rfl
theorem stF : (Tryd.prog.fieldsOf 58).toList.map (fun f => (f.type, f.offset)) = [(56, 0), (3, 3)] := by kernel_rfl
theorem stN : (Tryd.prog.fieldsOf 58).all (·.name != "_") = true := by kernel_rfl
theorem stK : Tryd.prog.keyType 58 = true := by kernel_rfl
theorem tyIntU : Tryd.prog.underlying 3 = some (.int .i64) := by kernel_rfl
theorem ce1 : Tryd.prog.cellsOf 3 = 1 := by kernel_rfl
theorem ce3 : Tryd.prog.cellsOf 56 = 3 := by kernel_rfl
theorem ce4 : Tryd.prog.cellsOf 58 = 4 := by kernel_rfl
theorem tySz : Nat.ble 2 Tryd.prog.types.size = true := by kernel_rfl
theorem wf_small {x : Nat} (hx : x < 2 ^ 9) : (Lit.int .i64 (x : Int)).wf = true := by
  have h1 : IntKind.i64.min = -9223372036854775808 := by decide
  have h2 : IntKind.i64.max = 9223372036854775807 := by decide
  simp only [Lit.wf, h1, h2, Bool.and_eq_true, decide_eq_true_eq]
  omega
theorem lits_int {D x : Nat} (hx : x < 2 ^ 9) : Tryd.prog.keyLits (D + 1) 3 [.int .i64 (x : Int)] = some [.int .i64 (x : Int)] := by
  simp [Program.keyLits, tyIntU, wf_small hx]
theorem lits_arr {D x y z : Nat} (hx : x < 2 ^ 9) (hy : y < 2 ^ 9) (hz : z < 2 ^ 9) : Tryd.prog.keyLits (D + 2) 56 [.int .i64 (x : Int), .int .i64 (y : Int), .int .i64 (z : Int)] = some [.int .i64 (x : Int), .int .i64 (y : Int), .int .i64 (z : Int)] := by
  unfold Program.keyLits
  rw [tyA3]
  simp only [ce1, ce3, List.length_cons, List.length_nil, if_true]
  rw [show List.range 3 = [0, 1, 2] from rfl]
  simp [lits_int hx, lits_int hy, lits_int hz]
theorem lits_st {D f a b t : Nat} (hf : f < 2 ^ 9) (ha : a < 2 ^ 9) (hb : b < 2 ^ 9) (ht : t < 2 ^ 9) : ∃ L, Tryd.prog.keyLits (D + 3) 58 [.int .i64 (f : Int), .int .i64 (a : Int), .int .i64 (b : Int), .int .i64 (t : Int)] = some L := by
  unfold Program.keyLits
  rw [stU]
  simp only [ce4, List.length_cons, List.length_nil, stN, and_self, if_true]
  have hF := stF
  generalize Tryd.prog.fieldsOf 58 = fs at hF ⊢
  obtain ⟨L⟩ := fs
  match L, hF with
  | [f0, f1], hF =>
    simp only [List.map_cons, List.map_nil, List.cons.injEq, Prod.mk.injEq, and_true] at hF
    obtain ⟨⟨t0, o0⟩, t1, o1⟩ := hF
    refine ⟨[.int .i64 (f : Int), .int .i64 (a : Int), .int .i64 (b : Int), .int .i64 (t : Int)], ?_⟩
    simp [t0, o0, t1, o1, ce1, ce3, lits_arr hf ha hb, lits_int ht]
  | [], hF => simp at hF
  | [_], hF => simp at hF
  | _ :: _ :: _ :: _, hF => simp at hF
theorem isKey_st {R C f a b t : Nat} (hB : BoardOf R C) (hs : Stands R C f a b t) : isKeyP Tryd.prog 58 (stP f a b t) = true := by
  obtain ⟨hp, hf, _, ht⟩ := hs
  have l9 := hp.lt9 hB
  obtain ⟨D, hD⟩ : ∃ D, Tryd.prog.types.size + 1 = D + 3 := ⟨Tryd.prog.types.size - 2, by have := Nat.le_of_ble_eq_true tySz; omega⟩
  obtain ⟨L, hL⟩ := lits_st (D := D) hf l9.1 l9.2 (show t < 2 ^ 9 by omega)
  have hk : keyV (stP f a b t) = some (.agg #[.int .i64 (f : Int), .int .i64 (a : Int), .int .i64 (b : Int), .int .i64 (t : Int)]) := rfl
  have hfo : (Value.agg #[.int .i64 (f : Int), .int .i64 (a : Int), .int .i64 (b : Int), .int .i64 (t : Int)]).formed Tryd.prog 58 = true := by
    simp [Value.formed, stU, ce4]
  unfold isKeyP
  rw [hk]
  simp only [keyOf, stU, stK, hfo, Bool.and_self, if_true, hD, Value.cells, hL, Option.map_some, Option.isSome_some]
theorem keys_memo {R C : Nat} {es : List (PV × PV)} (hB : BoardOf R C) (hm : Memo R C es) {f a b t : Nat} (hs : Stands R C f a b t) : keysB Tryd.prog 58 es (stP f a b t) = true := by
  unfold keysB
  rw [keyedSt, isKey_st hB hs, Bool.and_self, Bool.true_and, List.all_eq_true]
  intro p hp
  obtain ⟨f', a', b', t', hs', rfl⟩ := hm p hp
  exact isKey_st hB hs'

theorem look_st {R C m : Nat} {es : List (PV × PV)} {h : PHeap} (hB : BoardOf R C) (hM : MapAt h m es) (hm : Memo R C es) {f a b t : Nat} (hs : Stands R C f a b t) :
    lookupP Tryd.prog 67 (.mapv m) (stP f a b t) true h = some (foundP true (.int .i64 0) (findM es (stP f a b t))) := by
  have hk := keys_memo hB hm hs
  have hma : mapAt h m = some es := by unfold mapAt; rw [show h[m]? = some (.mp es) from hM]
  simp only [lookupP, tyMp, hma, zeroInt, hk, cond_true]
theorem upd_st {R C m : Nat} {es : List (PV × PV)} {h : PHeap} (hB : BoardOf R C) (hM : MapAt h m es) (hm : Memo R C es) {f a b t : Nat} (hs : Stands R C f a b t) (x : Int) :
    updateP Tryd.prog 67 (.mapv m) (stP f a b t) (.int .i64 x) h = some (h.set m (.mp (putM es (stP f a b t) (.int .i64 x)))) := by
  have hk := keys_memo hB hm hs
  have hma : mapAt h m = some es := by unfold mapAt; rw [show h[m]? = some (.mp es) from hM]
  simp only [updateP, tyMp, hma, hk, PV.oneCell, Bool.and_self, cond_true]

/-- The search of a board: its tables, and its map, right in every entry. -/
def Sch (R C : Nat) (h : PHeap) (s m : Nat) : Prop := At h s (srchC R C m) ∧ ∃ es, MapAt h m es ∧ Memo R C es
theorem Sch.keep {R C s m : Nat} {h h' : PHeap} (hs : Sch R C h s m) (k : Keep h.length h h') : Sch R C h' s m := by
  obtain ⟨a, es, b, c⟩ := hs; exact ⟨a.keep k, es, b.keep k, c⟩
theorem Sch.ne {R C s m id : Nat} {h : PHeap} {l : List PV} (hs : Sch R C h s m) (a : At h id l) : id ≠ m := by
  obtain ⟨_, es, b, _⟩ := hs; exact a.ne b
theorem Sch.lt {R C s m : Nat} {h : PHeap} (hs : Sch R C h s m) : m < h.length := by
  obtain ⟨_, es, b, _⟩ := hs; exact b.lt
theorem Tab64.kb {g : Nat → PV} {R C s m : Nat} {h h' : PHeap} (t : Tab64 g h) (hs : Sch R C h s m) (k : KB m h h') : Tab64 g h' := fun id e => by
  have ho := t id e
  obtain ⟨_, es, b, _⟩ := hs
  rw [k.2 id (List.getElem?_eq_some_iff.1 ho).1 (fun e => by subst e; unfold MapAt at b; rw [ho] at b; cases b)]; exact ho
theorem Tab.kb {g : Nat → PV} {R C s m : Nat} {h h' : PHeap} (t : Tab g h) (hs : Sch R C h s m) (k : KB m h h') : Tab g h' := by
  obtain ⟨id, e, ho⟩ := t
  obtain ⟨_, es, b, _⟩ := hs
  exact ⟨id, e, by rw [k.2 id (List.getElem?_eq_some_iff.1 ho).1 (fun e => by subst e; unfold MapAt at b; rw [ho] at b; cases b)]; exact ho⟩

theorem who_win {R C a b t : Nat} (hB : BoardOf R C) (hp : Pos R C a b) : (whoN R C a b ≠ 0 → winN R C a b t = whoN R C a b) ∧ (whoN R C a b = 0 → joinsN R C 1 a = false ∧ joinsN R C 2 b = false) ∧ whoN R C a b ≤ 2 := by
  unfold whoN
  cases h1 : joinsN R C 1 a with
  | true => exact ⟨fun _ => win_first h1, fun h => by simp at h, by simp⟩
  | false =>
    cases h2 : joinsN R C 2 b with
    | true => exact ⟨fun _ => by rw [win_second hB hp h2]; rfl, fun h => by simp at h, by simp⟩
    | false => exact ⟨fun h => by simp at h, fun _ => ⟨rfl, rfl⟩, by simp⟩

theorem fr_put' {R C f a b t k : Nat} (hs : Stands R C f a b t) (hk : f.testBit k = true) : frN (R * C) (putA t k a) (putB t k b) + 1 ≤ frN (R * C) a b := by
  obtain ⟨k1, k2⟩ := (hs.2.2.1 k).1 hk; exact fr_put k1 k2

variable (g : Nat → PV) (lf n : Nat)

def WinOk (R C s m : Nat) (b : Nat) : Prop := ∀ (f a b' t N : Nat) (h : PHeap), frN (R * C) a b' ≤ b → Stands R C f a b' t → 2 * b + 8 ≤ N → Sch R C h s m → Tab64 g h →
  W (CL g lf N fn_impl_search_winner [.ptr s 0, stP f a b' t] h) fun v h' => v = .int .i64 (winN R C a b' t : Int) ∧ Sch R C h' s m ∧ KB m h h'

theorem solved_W {R C s m B : Nat} (hB : BoardOf R C) (hbig : Big g) (hlf : 1000 < lf) (ih : ∀ b, b < B → WinOk g lf R C s m b) {f a b t : Nat} (hfr : frN (R * C) a b ≤ B) (hst : Stands R C f a b t) (N : Nat) (hN : 2 * B + 7 ≤ N) {h : PHeap} (hs : Sch R C h s m) (ht : Tab64 g h) :
    W (CL g lf N fn_impl_search_solved [.ptr s 0, stP f a b t] h) fun v h' => v = .int .i64 (winN R C a b t : Int) ∧ Sch R C h' s m ∧ KB m h h' := by
  obtain ⟨n, rfl⟩ : ∃ n, N = n + 1 := ⟨N - 1, by omega⟩
  obtain ⟨hp, hf9, hfree, hT⟩ := id hst
  have h9 := hB.2.2.2.2
  have l9 := hp.lt9 hB
  obtain ⟨w1, w2, w3⟩ := who_win (t := t) hB hp
  rw [impl_search_solved.call_eq]
  unfold impl_search_solved.main
  simp only [env_C, env_lf, env_box, env_load, env_bin, env_fieldAddr, env_indexAddr]
  refine wboxS fun h1 id o1 k1 l1 => ?_
  have hs1 := hs.keep k1
  have ht1 := ht.keep k1
  obtain ⟨h2, e1, k2⟩ := joined_W g lf (f := f) (t := t) hB hp hbig hs1.1 ht1 n (by omega) hlf
  have hs2 := hs1.keep k2
  have ht2 := ht1.keep k2
  have o2 := o1.keep k2
  repeat (first | with_reducible refine wbd (by assumption) ?_ | (with_reducible refine wbd (ldS (by assumption)) ?_) | dsimp only)
  refine wneq (fun e => ?_) (fun e => ?_)
  · repeat (first | with_reducible refine wT ?_ | with_reducible refine wrI ?_)
    exact W.ret ⟨by rw [w1 (by omega)], hs2, k1.kb.trans k2.kb⟩
  · obtain ⟨j1, j2⟩ := w2 (by omega)
    have hwo := win_open (t := t) j1 j2
    have e3 : ∀ h, CL g lf n fn_impl_exchanged [.int .i64 (t : Int)] h = some (.int .i64 ((3 - t : Nat) : Int), h) := fun h => exchanged_W g lf n (by omega) h hT
    repeat (first | with_reducible refine wF ?_ | (with_reducible refine wbd (fSt0 _) ?_) | (with_reducible refine wia30 ?_) | (with_reducible refine wbd (ld1 (by assumption) rfl) ?_))
    refine loopW (fun m' st => ∃ (r : Nat) (h3 : PHeap), st = impl_search_solved.st0 (.ptr s 0) (.ptr id 0) (.int .i64 (r : Int)) h3 ∧ r < 2 ^ 9 ∧ (∀ k, r.testBit k = true → f.testBit k = true) ∧ (∀ k, f.testBit k = true → r.testBit k = false → winN R C (putA t k a) (putB t k b) (3 - t) ≠ t) ∧
      At h3 id (stC f a b t) ∧ Sch R C h3 s m ∧ Tab64 g h3 ∧ KB m h2 h3 ∧ m' = r) ?_ lf f _ (by omega) ⟨f, h2, rfl, hf9, fun _ h => h, fun k h1 h2 => (by rw [h1] at h2; cases h2), o2, hs2, ht2, KB.refl _ _, rfl⟩
    rintro n1 m1 st ⟨r, h3, rfl, hr, hrf, hno, o3, hs3, ht3, k3, hm⟩ next
    rw [impl_search_solved.body0_eq]
    unfold impl_search_solved.body0
    simp only [env_C, env_load, env_bin, env_fieldAddr]
    by_cases e4 : r = 0
    · subst e4
      have e3' := e3 h3
      repeat (first | with_reducible refine wF ?_ | with_reducible refine wrI ?_ | with_reducible refine wbd (by assumption) ?_ | (with_reducible refine wbd (fSt1 _) ?_) | (with_reducible refine wbd (ld1 (by assumption) rfl) ?_) | with_reducible refine wneqF (by omega) ?_ | rw [kLoop_exit] | rw [impl_search_solved.after0_se0_0_3_6_17] | dsimp only | simp only [env_C, env_g, env_lf, env_pick, env_alloc, env_box, env_build, env_buildSlice, env_load, env_store, env_ptr, env_bin, env_un, env_conv, env_make, env_slice, env_fieldAddr, env_field, env_indexAddr, env_index, env_extract, env_len, env_append, env_max, env_min, env_makeMap, env_lookup, env_update])
      refine W.ret ⟨?_, hs3, (k1.kb.trans k2.kb).trans k3⟩
      have hmv : moveB R C a b t = false := by
        cases hh : moveB R C a b t with
        | false => rfl
        | true =>
          obtain ⟨k, c1, c2, c3⟩ := moveB_iff.1 hh
          exact absurd c3 (hno k ((hfree k).2 ⟨c1, c2⟩) (Nat.zero_testBit _))
      rw [hwo, hmv]; rfl
    · have el := leastIn_W g lf hr e4 hbig ht3 n (by omega)
      obtain ⟨c1, c2, c3, c4⟩ := least_ok hr e4
      obtain ⟨d1, d2⟩ := f_drop hr e4
      have hlt := without_less hr e4
      have hwl := without_lt9 (k := leastN r) hr
      obtain ⟨k, hk⟩ : ∃ k, k = leastN r := ⟨_, rfl⟩
      rw [← hk] at el c1 c2 d2 hlt hwl
      have hkf := hrf k c1
      have hfr' := fr_put' hst hkf
      have hst' := hst.put hkf
      repeat (first | with_reducible refine wT ?_ | with_reducible refine wck plain_int ?_ | with_reducible refine wbd (by assumption) ?_ | (with_reducible refine wbd (fSt1 _) ?_) | (with_reducible refine wbd (ld1 (by assumption) rfl) ?_) | (with_reducible refine wbd (ldS (by assumption)) ?_) | (with_reducible refine wck plainS ?_) | with_reducible refine wneqT (by omega) ?_ | dsimp only)
      refine wcall (after_W g lf hf9 l9.1 l9.2 c2 hT n (by omega) h3) fun v h4 ⟨hv, k4⟩ => ?_
      subst hv
      have o4 := o3.keep k4
      have hs4 := hs3.keep k4
      have ht4 := ht3.keep k4
      repeat (first | with_reducible refine wck plain_int ?_ | (with_reducible refine wbd (ld1 (by assumption) rfl) ?_) | (with_reducible refine wbd (ldS (by assumption)) ?_) | (with_reducible refine wck plainS ?_) | dsimp only)
      refine wcall (ih (B - 1) (by omega) _ _ _ _ n h4 (by omega) hst' (by omega) hs4 ht4) fun v h5 ⟨hv, hs5, k5⟩ => ?_
      subst hv
      have o5 := o4.kb k5 (hs4.ne o4)
      have ht5 := ht4.kb hs4 k5
      repeat (first | with_reducible refine wck plain_int ?_ | (with_reducible refine wbd (ld1 (by assumption) rfl) ?_) | (with_reducible refine wbd (ldS (by assumption)) ?_) | (with_reducible refine wck plainS ?_) | dsimp only)
      refine weql (fun e5 => ?_) (fun e5 => ?_)
      · repeat (first | with_reducible refine wT ?_ | with_reducible refine wrI ?_ | (with_reducible refine wbd (fSt1 _) ?_) | (with_reducible refine wbd (ld1 (by assumption) rfl) ?_) | rw [kLoop_ret] | rw [impl_search_solved.K0_ret] | rw [impl_search_solved.top_sr_4])
        refine W.ret ⟨?_, hs5, ((k1.kb.trans k2.kb).trans k3).trans (k4.kb.trans k5)⟩
        obtain ⟨q1, q2⟩ := (hfree k).1 hkf
        have hmv : moveB R C a b t = true := moveB_iff.2 ⟨k, q1, q2, by omega⟩
        rw [hwo, hmv]; rfl
      · repeat (first | with_reducible refine wF ?_ | with_reducible refine wbd (by assumption) ?_)
        refine next _ _ (hm ▸ hlt) ⟨_, h5, rfl, hwl, fun j hj => ?_, fun j hj1 hj2 => ?_, o5, hs5, ht5, k3.trans (k4.kb.trans k5), rfl⟩
        · rw [without_bit, Bool.and_eq_true] at hj; exact hrf j hj.1
        · by_cases hjk : j = k
          · subst hjk; omega
          · rw [without_bit] at hj2
            simp only [ne_eq, hjk, not_false_eq_true, decide_true, Bool.and_true] at hj2
            exact hno j hj1 hj2

theorem sWinner_W {R C s m : Nat} (hB : BoardOf R C) (hbig : Big g) (hlf : 1000 < lf) (B : Nat) : WinOk g lf R C s m B := by
  induction B using Nat.strongRecOn with
  | _ B ih =>
  intro f a b t N h hfr hst hN hs ht
  obtain ⟨n, rfl⟩ : ∃ n, N = n + 1 := ⟨N - 1, by omega⟩
  rw [impl_search_winner.call_eq]
  unfold impl_search_winner.main
  simp only [env_C, env_box, env_load, env_ptr, env_un, env_fieldAddr, env_extract, env_lookup, env_update]
  refine wboxS fun h1 id o1 k1 l1 => ?_
  have hs1 := hs.keep k1
  have ht1 := ht.keep k1
  obtain ⟨sa, es, ma, mm⟩ := _root_.id hs1
  have hlook := look_st hB ma mm hst
  repeat (first | with_reducible refine wptr ?_ | with_reducible refine wbd (by assumption) ?_ | (with_reducible refine wbd (fs3 _) ?_) | (with_reducible refine wbd (ldS (by assumption)) ?_) | (with_reducible refine wbd (ldM (by assumption) (srch_map _ _ _)) ?_) | dsimp only)
  cases hfd : findM es (stP f a b t) with
  | some v =>
    have hv := memo_find mm hfd
    subst hv
    refine wx0 ?_
    refine wx1 ?_
    repeat (first | with_reducible refine wF ?_ | with_reducible refine wnT ?_ | with_reducible refine wrI ?_)
    exact W.ret ⟨rfl, hs1, k1.kb⟩
  | none =>
    refine wx0 ?_
    refine wx1 ?_
    repeat (first | with_reducible refine wT ?_ | with_reducible refine wnF ?_ | (with_reducible refine wbd (ldS (by assumption)) ?_))
    refine wcall (solved_W g lf hB hbig hlf ih hfr hst n (by omega) hs1 ht1) fun v h2 ⟨hv, hs2, k2⟩ => ?_
    subst hv
    have o2 := o1.kb k2 (hs1.ne o1)
    obtain ⟨sa2, es2, ma2, mm2⟩ := _root_.id hs2
    repeat (first | with_reducible refine wptr ?_ | (with_reducible refine wbd (fs3 _) ?_) | (with_reducible refine wbd (ldS (by assumption)) ?_) | (with_reducible refine wbd (ldM (by assumption) (srch_map _ _ _)) ?_) | dsimp only)
    refine wbd (upd_st hB ma2 mm2 hst _) ?_
    have ma3 : MapAt (h2.set m (.mp (putM es2 (stP f a b t) (.int .i64 (winN R C a b t : Int))))) m (putM es2 (stP f a b t) (.int .i64 (winN R C a b t : Int))) := by
      unfold MapAt; rw [List.getElem?_set_self ma2.lt]
    have k3 : KB m h2 (h2.set m (.mp (putM es2 (stP f a b t) (.int .i64 (winN R C a b t : Int))))) := ⟨by simp, fun i _ hn => List.getElem?_set_ne (by omega)⟩
    generalize h2.set m (.mp (putM es2 (stP f a b t) (.int .i64 (winN R C a b t : Int)))) = h3 at ma3 k3 ⊢
    have sa3 := sa2.kb k3 (sa2.ne ma2)
    repeat (first | with_reducible refine wrI ?_ | with_reducible refine wck plain_map ?_ | (with_reducible refine wbd (ldM (by assumption) (srch_map _ _ _)) ?_))
    exact W.ret ⟨rfl, ⟨sa3, _, ma3, memo_put hst mm2⟩, (k1.kb.trans k2).trans k3⟩

end Go.Proofs.YtkbnngklbfnkiaaDoor

/- The program's search: made for a board, begun at a position; the moves by which one wins. -/
namespace Go.Proofs.YtkbnngklbfnkiaaDoor
open Go Go.Ip G

variable (g : Nat → PV) (lf n : Nat)

theorem sWinning_W {R C s m : Nat} (hB : BoardOf R C) (hbig : Big g) (hlf : 1000 < lf) {f a b t : Nat} (hst : Stands R C f a b t) (N : Nat) (hN : 30 ≤ N) {h : PHeap} (hs : Sch R C h s m) (ht : Tab64 g h) :
    W (CL g lf N fn_impl_search_winning [.ptr s 0, stP f a b t] h) fun v h' => ∃ S : Nat, v = .int .i64 (S : Int) ∧ S < 2 ^ 9 ∧ (∀ k, S.testBit k = true ↔ whoN R C a b = 0 ∧ f.testBit k = true ∧ winN R C (putA t k a) (putB t k b) (3 - t) = t) ∧ Sch R C h' s m ∧ KB m h h' := by
  obtain ⟨n, rfl⟩ : ∃ n, N = n + 1 := ⟨N - 1, by omega⟩
  obtain ⟨hp, hf9, hfree, hT⟩ := id hst
  have h9 := hB.2.2.2.2
  have l9 := hp.lt9 hB
  obtain ⟨w1, w2, w3⟩ := who_win (t := t) hB hp
  rw [impl_search_winning.call_eq]
  unfold impl_search_winning.main
  simp only [env_C, env_lf, env_box, env_load, env_bin, env_fieldAddr, env_indexAddr]
  refine wboxS fun h1 id o1 k1 l1 => ?_
  have hs1 := hs.keep k1
  have ht1 := ht.keep k1
  obtain ⟨h2, e1, k2⟩ := joined_W g lf (f := f) (t := t) hB hp hbig hs1.1 ht1 n (by omega) hlf
  have hs2 := hs1.keep k2
  have ht2 := ht1.keep k2
  have o2 := o1.keep k2
  repeat (first | with_reducible refine wbd (by assumption) ?_ | (with_reducible refine wbd (ldS (by assumption)) ?_) | dsimp only)
  refine wneq (fun e => ?_) (fun e => ?_)
  · repeat (first | with_reducible refine wT ?_ | with_reducible refine wrI ?_)
    exact W.ret ⟨0, rfl, by decide, fun k => ⟨fun hh => (by rw [Nat.zero_testBit] at hh; cases hh), fun hh => absurd hh.1 (by omega)⟩, hs2, k1.kb.trans k2.kb⟩
  · have hw0 : whoN R C a b = 0 := by omega
    repeat (first | with_reducible refine wF ?_ | (with_reducible refine wbd (fSt0 _) ?_) | (with_reducible refine wia30 ?_) | (with_reducible refine wbd (ld1 (by assumption) rfl) ?_))
    refine loopW (fun m' st => ∃ (S r : Nat) (h3 : PHeap), st = impl_search_winning.st0 (.ptr s 0) (.ptr id 0) (.int .i64 (S : Int)) (.int .i64 (r : Int)) h3 ∧ r < 2 ^ 9 ∧ S < 2 ^ 9 ∧ (∀ k, r.testBit k = true → f.testBit k = true) ∧ (∀ k, S.testBit k = true ↔ f.testBit k = true ∧ r.testBit k = false ∧ winN R C (putA t k a) (putB t k b) (3 - t) = t) ∧
      At h3 id (stC f a b t) ∧ Sch R C h3 s m ∧ Tab64 g h3 ∧ KB m h2 h3 ∧ m' = r) ?_ lf f _ (by omega) ⟨0, f, h2, rfl, hf9, by decide, fun _ h => h, fun k => ⟨fun hh => (by rw [Nat.zero_testBit] at hh; cases hh), fun ⟨h1, h2, _⟩ => (by rw [h1] at h2; cases h2)⟩, o2, hs2, ht2, KB.refl _ _, rfl⟩
    rintro n1 m1 st ⟨S, r, h3, rfl, hr, hS, hrf, hSb, o3, hs3, ht3, k3, hm⟩ next
    rw [impl_search_winning.body0_eq]
    unfold impl_search_winning.body0
    simp only [env_C, env_load, env_bin, env_fieldAddr]
    by_cases e4 : r = 0
    · subst e4
      repeat (first | with_reducible refine wF ?_ | with_reducible refine wrI ?_ | with_reducible refine wneqF (by omega) ?_ | rw [kLoop_exit] | rw [impl_search_winning.after0_se0_0_3_5_6_16])
      refine W.ret ⟨S, rfl, hS, fun k => ?_, hs3, (k1.kb.trans k2.kb).trans k3⟩
      rw [hSb]
      exact ⟨fun ⟨c1, _, c3⟩ => ⟨hw0, c1, c3⟩, fun ⟨_, c1, c3⟩ => ⟨c1, Nat.zero_testBit _, c3⟩⟩
    · have el := leastIn_W g lf hr e4 hbig ht3 n (by omega)
      obtain ⟨c1, c2, c3, c4⟩ := least_ok hr e4
      obtain ⟨d1, d2⟩ := f_drop hr e4
      have hlt := without_less hr e4
      have hwl := without_lt9 (k := leastN r) hr
      obtain ⟨k, hk⟩ : ∃ k, k = leastN r := ⟨_, rfl⟩
      rw [← hk] at el c1 c2 d2 hlt hwl
      have hkf := hrf k c1
      have hst' := hst.put hkf
      have hsl := shl_lt c2
      repeat (first | with_reducible refine wT ?_ | with_reducible refine wbd (by assumption) ?_ | (with_reducible refine wbd (fSt1 _) ?_) | (with_reducible refine wbd (ld1 (by assumption) rfl) ?_) | (with_reducible refine wbd (ldS (by assumption)) ?_) | with_reducible refine wneqT (by omega) ?_ | dsimp only)
      refine wcall (after_W g lf hf9 l9.1 l9.2 c2 hT n (by omega) h3) fun v h4 ⟨hv, k4⟩ => ?_
      subst hv
      have o4 := o3.keep k4
      have hs4 := hs3.keep k4
      have ht4 := ht3.keep k4
      repeat (first | with_reducible refine wck plain_int ?_ | (with_reducible refine wbd (ld1 (by assumption) rfl) ?_) | (with_reducible refine wbd (ldS (by assumption)) ?_) | (with_reducible refine wck plainS ?_) | dsimp only)
      refine wcall (sWinner_W g lf hB hbig hlf 9 _ _ _ _ n h4 (Nat.le_trans (fr_le _ _ _) h9) hst' (by omega) hs4 ht4) fun v h5 ⟨hv, hs5, k5⟩ => ?_
      subst hv
      have o5 := o4.kb k5 (hs4.ne o4)
      have ht5 := ht4.kb hs4 k5
      have hrw : ∀ j, (without r k).testBit j = true → f.testBit j = true := fun j hj => by
        rw [without_bit, Bool.and_eq_true] at hj; exact hrf j hj.1
      repeat (first | with_reducible refine wck plain_int ?_ | (with_reducible refine wbd (ld1 (by assumption) rfl) ?_) | (with_reducible refine wbd (ldS (by assumption)) ?_) | (with_reducible refine wck plainS ?_) | dsimp only)
      refine weql (fun e5 => ?_) (fun e5 => ?_)
      · repeat (first | with_reducible refine wT ?_ | with_reducible refine wbd (by assumption) ?_ | with_reducible refine wshl (by omega) ?_ | with_reducible refine wor (by omega) (by omega) ?_)
        refine next _ _ (hm ▸ hlt) ⟨_, _, h5, rfl, hwl, Nat.or_lt_two_pow hS hsl, hrw, fun j => ?_, o5, hs5, ht5, k3.trans (k4.kb.trans k5), rfl⟩
        rw [with_bit, Bool.or_eq_true, hSb, without_bit, decide_eq_true_iff]
        by_cases hjk : j = k
        · subst hjk
          exact ⟨fun _ => ⟨hkf, by simp, by omega⟩, fun _ => .inr rfl⟩
        · simp only [ne_eq, hjk, not_false_eq_true, decide_true, Bool.and_true, or_false]
      · repeat (first | with_reducible refine wF ?_ | with_reducible refine wbd (by assumption) ?_)
        refine next _ _ (hm ▸ hlt) ⟨_, _, h5, rfl, hwl, hS, hrw, fun j => ?_, o5, hs5, ht5, k3.trans (k4.kb.trans k5), rfl⟩
        rw [hSb, without_bit]
        by_cases hjk : j = k
        · subst hjk
          exact ⟨fun hh => (by rw [c1] at hh; cases hh.2.1), fun hh => absurd hh.2.2 (by omega)⟩
        · simp only [ne_eq, hjk, not_false_eq_true, decide_true, Bool.and_true]

/-! ### a search is made -/
def slotV (R C i p j : Nat) : Nat :=
  if j < 9 then (if j < i then nearV R C j else 0) else if j = 10 ∧ 2 ≤ p then sideN R C 1 false else if j = 11 ∧ 3 ≤ p then sideN R C 2 false else if j = 13 ∧ 2 ≤ p then sideN R C 1 true else if j = 14 ∧ 3 ≤ p then sideN R C 2 true else 0
def fillC (R C m i p : Nat) : List PV := ((List.range 15).map (slotV R C i p)).map (fun x : Nat => .int .i64 (x : Int)) ++ [.mapv m]
theorem fillC_length (R C m i p : Nat) : (fillC R C m i p).length = 16 := by simp [fillC]
theorem fill_done (R C m : Nat) : fillC R C m (R * C) 3 = srchC R C m := by
  have hn : ∀ j ∈ List.range 9, slotV R C (R * C) 3 j = nearV R C j := fun j hj => by
    have hj := List.mem_range.1 hj
    unfold slotV nearV
    rw [if_pos hj]
    by_cases h : j < R * C <;> simp [h]
  unfold fillC srchC srchV
  rw [show List.range 15 = List.range 9 ++ [9, 10, 11, 12, 13, 14] from rfl, List.map_append, List.map_congr_left hn]
  rfl
theorem fill_near {R C m i p : Nat} (hi : i < 9) : (fillC R C m i p).set (0 + i) (.int .i64 (nearV R C i : Int)) = fillC R C m (i + 1) p := by
  unfold fillC
  rw [Nat.zero_add, List.set_append_left _ _ (by simp; omega), ← List.map_set]
  congr 2
  apply List.ext_getElem (by simp)
  intro j h1 h2
  simp only [List.getElem_set, List.getElem_map, List.getElem_range]
  unfold slotV
  by_cases e : i = j
  · subst e; rw [if_pos rfl, if_pos hi, if_pos (by omega)]
  · rw [if_neg e]
    by_cases h9 : j < 9
    · rw [if_pos h9, if_pos h9]
      by_cases h : j < i
      · rw [if_pos h, if_pos (by omega)]
      · rw [if_neg h, if_neg (by omega)]
    · rw [if_neg h9, if_neg h9]
theorem fill_one (R C m i : Nat) : ((fillC R C m i 1).set (9 + 1) (.int .i64 (sideN R C 1 false : Int))).set (12 + 1) (.int .i64 (sideN R C 1 true : Int)) = fillC R C m i 2 := by rfl
theorem fill_two (R C m i : Nat) : ((fillC R C m i 2).set (9 + 2) (.int .i64 (sideN R C 2 false : Int))).set (12 + 2) (.int .i64 (sideN R C 2 true : Int)) = fillC R C m i 3 := by rfl
theorem bldS (m : Nat) : buildP Tryd.prog 70 [(3, .mapv m)] = some (.agg (fillC 1 1 m 0 1)) := by kernel_rfl
theorem fill_zero (R C m : Nat) : fillC 1 1 m 0 1 = fillC R C m 0 1 := by
  unfold fillC
  congr 2

theorem wmkM {Q : PV → PHeap → Prop} {h : PHeap} {F : PV × PHeap → Res} (hf : ∀ h' m, MapAt h' m [] → Keep h.length h h' → h.length ≤ m → W (F (.mapv m, h')) Q) : W ((makeMapP none h).bind F) Q :=
  hf _ _ (by unfold MapAt; simp) (Keep.append _ _ _ (Nat.le_refl _)) (Nat.le_refl _)

theorem newSearch_W {R C : Nat} (hB : BoardOf R C) (N : Nat) (hN : 7 ≤ N) (hlf : 1000 < lf) {h : PHeap} (ht : Tab g h) :
    W (CL g lf N fn_impl_newSearch [.int .i64 (R : Int), .int .i64 (C : Int)] h) fun v h' => ∃ s m, v = .ptr s 0 ∧ Sch R C h' s m ∧ Keep h.length h h' ∧ h.length ≤ s ∧ h.length ≤ m := by
  obtain ⟨n, rfl⟩ : ∃ n, N = n + 1 := ⟨N - 1, by omega⟩
  obtain ⟨b1, b2, b3, b4, h9⟩ := id hB
  rw [impl_newSearch.call_eq]
  unfold impl_newSearch.main
  simp only [env_lf, env_box, env_build, env_bin, env_makeMap]
  refine wmkM fun h1 m ma k1 lm => ?_
  refine wbd (bldS m) ?_
  refine wnew (l := fillC 1 1 m 0 1) (by rfl) fun h2 s o2 k2 ls => ?_
  dsimp only at k2 ls ⊢
  rw [fill_zero R C] at o2
  have ma2 := ma.keep k2
  have kk := k1.trans (k2.mono k1.1)
  have lss : h.length ≤ s := Nat.le_trans k1.1 ls
  have hRC : R * C < 4611686018427387904 := by omega
  repeat (first | with_reducible refine wmulN (by omega) ?_)
  refine loopW (fun m' st => ∃ (i : Nat) (h3 : PHeap), st = impl_newSearch.st0 (.int .i64 (R : Int)) (.int .i64 (C : Int)) (.ptr s 0) (.int .i64 ((R * C : Nat) : Int)) (.int .i64 (i : Int)) h3 ∧ i + m' = R * C ∧ At h3 s (fillC R C m i 1) ∧ MapAt h3 m [] ∧ Keep h.length h h3) ?_ lf (R * C) _ (by omega) ⟨0, h2, rfl, by omega, o2, ma2, kk⟩
  rintro n1 m1 st ⟨i, h3, rfl, him, o3, ma3, k3⟩ next
  rw [impl_newSearch.body0_eq]
  unfold impl_newSearch.body0
  simp only [env_C, env_store, env_ptr, env_bin, env_fieldAddr, env_indexAddr]
  cases m1 with
  | succ m1 =>
    have hi : i < 9 := by omega
    have hsl := shl_lt hi
    have hnv : wideN R C (1 <<< i) = nearV R C i := by unfold nearV; rw [if_pos (by omega)]
    obtain ⟨h4, e4, k4⟩ := withNear_calls g lf b1 b2 b3 b4 h9 hsl n (by omega) (by omega) (ht.keep k3)
    have o4 := o3.keep k4
    rw [hnv] at e4
    repeat (first | with_reducible refine wT ?_ | with_reducible refine wptr ?_ | with_reducible refine wbd (by assumption) ?_ | (with_reducible refine wbd (fs0 _) ?_) | (with_reducible refine wia9 hi ?_) | with_reducible refine wshl (by omega) ?_ | with_reducible refine wlssT (by omega) ?_ | dsimp only)
    refine wst1 o4 (by rw [fillC_length]; omega) fun h5 o5 k5 => ?_
    rw [fill_near hi] at o5
    have ma5 := (ma3.keep k4).kb k5 (o4.ne (ma3.keep k4)).symm
    repeat (first | with_reducible refine wadd1 (by omega) ?_)
    exact next _ _ (Nat.lt_succ_self m1) ⟨i + 1, h5, rfl, by omega, o5, ma5, (k3.trans (k4.mono k3.1)).kbs (Nat.le_refl _) k5 lss⟩
  | zero =>
    have hiR : i = R * C := by omega
    subst hiR
    repeat (first | with_reducible refine wF ?_ | with_reducible refine wlssF (by omega) ?_ | rw [kLoop_exit] | rw [impl_newSearch.after0_se0_0_1_5_13_14_15] | simp only [env_C, env_g, env_lf, env_pick, env_alloc, env_box, env_build, env_buildSlice, env_load, env_store, env_ptr, env_bin, env_un, env_conv, env_make, env_slice, env_fieldAddr, env_field, env_indexAddr, env_index, env_extract, env_len, env_append, env_max, env_min, env_makeMap, env_lookup, env_update])
    refine loopW (fun m' st => ∃ (P : Nat) (h4 : PHeap), st = impl_newSearch.st1 (.int .i64 (R : Int)) (.int .i64 (C : Int)) (.ptr s 0) (.int .i64 (P : Int)) h4 ∧ P + m' = 3 ∧ 1 ≤ P ∧ At h4 s (fillC R C m (R * C) P) ∧ MapAt h4 m [] ∧ Keep h.length h h4) ?_ lf 2 _ (by omega) ⟨1, h3, rfl, rfl, by decide, o3, ma3, k3⟩
    rintro n2 m2 st ⟨P, h4, rfl, hPm, hP1, o4, ma4, k4⟩ next2
    have hP : P = 1 ∨ P = 2 ∨ P = 3 := by omega
    have e1 := fun h => sidesOf_W g lf hB (P := 1) (.inl rfl) n (by omega) hlf h
    have e2 := fun h => sidesOf_W g lf hB (P := 2) (.inr rfl) n (by omega) hlf h
    rw [impl_newSearch.body1_eq]
    unfold impl_newSearch.body1
    simp only [env_C, env_store, env_ptr, env_bin, env_fieldAddr, env_indexAddr, env_extract]
    rcases hP with rfl | rfl | rfl
    · have e1' := e1 h4
      repeat (first | with_reducible refine wT ?_ | with_reducible refine wx0 ?_ | with_reducible refine wx1 ?_ | with_reducible refine wptr ?_ | with_reducible refine wbd (by assumption) ?_ | (with_reducible refine wbd (fs1 _) ?_) | (with_reducible refine wbd (fs2 _) ?_) | (with_reducible refine wia3 (by omega) ?_) | with_reducible refine wleqT (by omega) ?_ | dsimp only)
      refine wst1 o4 (by rw [fillC_length]; decide) fun h5 o5 k5 => ?_
      repeat (first | (with_reducible refine wia3 (by omega) ?_))
      refine wst1 o5 (by rw [List.length_set, fillC_length]; decide) fun h6 o6 k6 => ?_
      rw [fill_one] at o6
      repeat (first | with_reducible refine wadd1 (by omega) ?_)
      exact next2 _ _ (show 1 < m2 by omega) ⟨2, h6, rfl, rfl, by decide, o6, (ma4.kb k5 (o4.ne ma4).symm).kb k6 (o4.ne ma4).symm, (k4.kbs (Nat.le_refl _) k5 lss).kbs (Nat.le_refl _) k6 lss⟩
    · have e2' := e2 h4
      repeat (first | with_reducible refine wT ?_ | with_reducible refine wx0 ?_ | with_reducible refine wx1 ?_ | with_reducible refine wptr ?_ | with_reducible refine wbd (by assumption) ?_ | (with_reducible refine wbd (fs1 _) ?_) | (with_reducible refine wbd (fs2 _) ?_) | (with_reducible refine wia3 (by omega) ?_) | with_reducible refine wleqT (by omega) ?_ | dsimp only)
      refine wst1 o4 (by rw [fillC_length]; decide) fun h5 o5 k5 => ?_
      repeat (first | (with_reducible refine wia3 (by omega) ?_))
      refine wst1 o5 (by rw [List.length_set, fillC_length]; decide) fun h6 o6 k6 => ?_
      rw [fill_two] at o6
      repeat (first | with_reducible refine wadd1 (by omega) ?_)
      exact next2 _ _ (show 0 < m2 by omega) ⟨3, h6, rfl, rfl, by decide, o6, (ma4.kb k5 (o4.ne ma4).symm).kb k6 (o4.ne ma4).symm, (k4.kbs (Nat.le_refl _) k5 lss).kbs (Nat.le_refl _) k6 lss⟩
    · repeat (first | with_reducible refine wF ?_ | with_reducible refine wrP ?_ | with_reducible refine wleqF (by omega) ?_ | rw [kLoop_exit] | rw [impl_newSearch.after1_se2_0_1_5_7_29])
      rw [fill_done] at o4
      exact W.ret ⟨s, m, rfl, ⟨o4, [], ma4, fun p hp => by cases hp⟩, k4, lss, Nat.le_trans (Nat.le_refl _) lm⟩

/-! ### where it begins -/
theorem bldSt (t : Nat) : buildP Tryd.prog 58 [(1, .int .i64 (t : Int))] = some (stP 0 0 0 t) := by kernel_rfl
theorem standingOf_W {xs : List Int} {p : PV} {h : PHeap} (hp : IntSl .i64 h p xs) (hl : xs.length ≤ 20) (t : Nat) (N : Nat) (hN : 2 ≤ N) (hlf : 1000 < lf) :
    W (CL g lf N fn_impl_standingOf [p, .int .i64 (t : Int)] h) fun v h' => v = stP (setL xs 0) (setL xs 1) (setL xs 2) t ∧ Keep h.length h h' := by
  obtain ⟨n, rfl⟩ : ∃ n, N = n + 1 := ⟨N - 1, by omega⟩
  rw [impl_standingOf.call_eq]
  unfold impl_standingOf.main
  simp only [env_lf, env_alloc, env_build, env_store]
  refine walS fun h1 id1 o1 k1 l1 => ?_
  refine wbd (bldSt t) ?_
  dsimp only
  refine walS fun h2 id2 o2 k2 l2 => ?_
  dsimp only
  have o1' := o1.keep k2
  have hne : id1 ≠ id2 := by have := o1.lt; omega
  refine wstS o2 fun h3 o3 k3 => ?_
  have o13 := o1'.kb k3 hne
  have kk : Keep h.length h h3 := (k1.trans (k2.mono k1.1)).kbs (Nat.le_refl _) k3 (Nat.le_trans k1.1 l2)
  have ll2 : h.length ≤ id2 := Nat.le_trans k1.1 l2
  refine loopW (fun m' st => ∃ (P u v w : Nat) (h4 : PHeap), st = impl_standingOf.st0 p (.ptr id1 0) (.ptr id2 0) (.int .i64 (P : Int)) h4 ∧ P + m' = 3 ∧ At h4 id2 (stC u v w t) ∧ At h4 id1 (stC 0 0 0 0) ∧ Keep h.length h h4 ∧ (1 ≤ P → u = setL xs 0) ∧ (2 ≤ P → v = setL xs 1) ∧ (3 ≤ P → w = setL xs 2)) ?_ lf 3 _ (by omega) ⟨0, 0, 0, 0, h3, rfl, rfl, o3, o13, kk, by omega, by omega, by omega⟩
  rintro n1 m1 st ⟨P, u, v, w, h4, rfl, hPm, o4, o14, k4, hu, hv, hw⟩ next
  have hP : P = 0 ∨ P = 1 ∨ P = 2 ∨ P = 3 := by omega
  have hp4 := hp.keep k4
  have e0 := setOf_W g lf ((0 : Nat) : Int) hp4 hl n (by omega) hlf
  have e1 := setOf_W g lf ((1 : Nat) : Int) hp4 hl n (by omega) hlf
  have e2 := setOf_W g lf ((2 : Nat) : Int) hp4 hl n (by omega) hlf
  rw [impl_standingOf.body0_eq]
  unfold impl_standingOf.body0
  simp only [env_C, env_store, env_bin, env_fieldAddr, env_indexAddr]
  rcases hP with rfl | rfl | rfl | rfl
  · repeat (first | with_reducible refine wT ?_ | with_reducible refine wbd (by assumption) ?_ | (with_reducible refine wbd (fSt0 _) ?_) | (with_reducible refine wia3 (by omega) ?_) | with_reducible refine wlssT (by omega) ?_ | dsimp only)
    refine wst1 o4 (show 0 + 0 < 4 by decide) fun h5 o5 k5 => ?_
    repeat (first | with_reducible refine wadd1 (by omega) ?_)
    exact next _ _ (show 2 < m1 by omega) ⟨1, setL xs 0, v, w, h5, rfl, rfl, o5, o14.kb k5 hne, k4.kbs (Nat.le_refl _) k5 ll2, fun _ => rfl, by omega, by omega⟩
  · repeat (first | with_reducible refine wT ?_ | with_reducible refine wbd (by assumption) ?_ | (with_reducible refine wbd (fSt0 _) ?_) | (with_reducible refine wia3 (by omega) ?_) | with_reducible refine wlssT (by omega) ?_ | dsimp only)
    refine wst1 o4 (show 0 + 1 < 4 by decide) fun h5 o5 k5 => ?_
    repeat (first | with_reducible refine wadd1 (by omega) ?_)
    exact next _ _ (show 1 < m1 by omega) ⟨2, u, setL xs 1, w, h5, rfl, rfl, o5, o14.kb k5 hne, k4.kbs (Nat.le_refl _) k5 ll2, fun _ => hu (by decide), fun _ => rfl, by omega⟩
  · repeat (first | with_reducible refine wT ?_ | with_reducible refine wbd (by assumption) ?_ | (with_reducible refine wbd (fSt0 _) ?_) | (with_reducible refine wia3 (by omega) ?_) | with_reducible refine wlssT (by omega) ?_ | dsimp only)
    refine wst1 o4 (show 0 + 2 < 4 by decide) fun h5 o5 k5 => ?_
    repeat (first | with_reducible refine wadd1 (by omega) ?_)
    exact next _ _ (show 0 < m1 by omega) ⟨3, u, v, setL xs 2, h5, rfl, rfl, o5, o14.kb k5 hne, k4.kbs (Nat.le_refl _) k5 ll2, fun _ => hu (by decide), fun _ => hv (by decide), fun _ => rfl⟩
  · repeat (first | with_reducible refine wF ?_ | (with_reducible refine wbd (ldS (by assumption)) ?_) | with_reducible refine wlssF (by omega) ?_ | rw [kLoop_exit] | rw [impl_standingOf.after0_se0_0_4_5_9_10] | simp only [env_C, env_g, env_lf, env_pick, env_alloc, env_box, env_build, env_buildSlice, env_load, env_store, env_ptr, env_bin, env_un, env_conv, env_make, env_slice, env_fieldAddr, env_field, env_indexAddr, env_index, env_extract, env_len, env_append, env_max, env_min, env_makeMap, env_lookup, env_update])
    refine wstS o14 fun h5 o5 k5 => ?_
    repeat (first | (with_reducible refine wbd (ldS (by assumption)) ?_))
    exact W.ret ⟨by rw [hu (by decide), hv (by decide), hw (by decide)], k4.kbs (Nat.le_refl _) k5 l1⟩

theorem stands_of {R C T : Nat} {xs : List Int} (hS : Sides (R : Int) (C : Int) R C xs) (hT : T = 1 ∨ T = 2) : Stands R C (setL xs 0) (setL xs 1) (setL xs 2) T := by
  refine ⟨pos_sets hS, set_lt9 hS 0, fun k => ?_, hT⟩
  rw [setL_bit]
  constructor
  · intro hk
    have hkl := set_in hS (setL_bit.2 hk)
    exact ⟨hkl, (free_bit hS hkl).2 hk⟩
  · rintro ⟨h1, h2⟩; exact (free_bit hS h1).1 h2

end Go.Proofs.YtkbnngklbfnkiaaDoor

/- The program's chapter 3: MoveOk, Played, WinnerOf, WinningCells and LinePlayed compute what the model's do. -/
namespace Go.Proofs.YtkbnngklbfnkiaaDoor
open Go Go.Ip G

variable (g : Nat → PV) (lf n : Nat)

/-! ### moves -/
theorem moveOk_W (hlf : 1000 < lf) (N : Nat) (hN : 30 ≤ N) (r c k pl : Int) {xs : List Int} {p : PV} {h : PHeap} (ht : TabOk g h) (hp : IntSl .i64 h p xs) (hl : xs.length ≤ 2 ^ 35) (hf : xs.length < lf) :
    ∃ h', CL g lf N fn_impl_MoveOk [.int .i64 r, .int .i64 c, p, .int .i64 k, .int .i64 pl] h = some (.bool (moveL r c xs k pl), h') ∧ Keep h.length h h' := by
  obtain ⟨n, rfl⟩ : ∃ n, N = n + 1 := ⟨N - 1, by omega⟩
  have hpos := positionOk_N g lf n (by omega) r c hp (by omega) hf
  have hplay := playerOk_W g lf n (by omega) h pl
  have hcell := cellOk_N g lf n (by omega) h r c k
  have : W (CL g lf (n + 1) fn_impl_MoveOk [.int .i64 r, .int .i64 c, p, .int .i64 k, .int .i64 pl] h) fun v h' => v = .bool (moveL r c xs k pl) ∧ Keep h.length h h' := by
    rw [impl_MoveOk.call_eq]
    unfold impl_MoveOk.main
    simp only [env_C, env_pick, env_load, env_bin, env_un, env_indexAddr]
    unfold moveL
    cases hb : posB r c xs with
    | false =>
      rw [hb] at hpos
      repeat (first | with_reducible refine wT ?_ | with_reducible refine wg0 rfl ?_ | with_reducible refine wpT ?_ | with_reducible refine wnF ?_ | with_reducible refine wsm ?_ | with_reducible refine wrB ?_ | with_reducible refine wbd (by assumption) ?_ | dsimp only)
      exact W.ret ⟨rfl, Keep.refl _ _⟩
    | true =>
      rw [hb] at hpos
      cases hpl : playerB pl with
      | false =>
        rw [hpl] at hplay
        repeat (first | with_reducible refine wT ?_ | with_reducible refine wg1 rfl ?_ | with_reducible refine wg0 rfl ?_ | with_reducible refine wpT ?_ | with_reducible refine wpF ?_ | with_reducible refine wnT ?_ | with_reducible refine wnF ?_ | with_reducible refine wpv ?_ | with_reducible refine wsm ?_ | with_reducible refine wrB ?_ | with_reducible refine wbd (by assumption) ?_ | dsimp only)
        exact W.ret ⟨rfl, Keep.refl _ _⟩
      | true =>
        rw [hpl] at hplay
        obtain ⟨R, C, hS⟩ := sides_of hb
        obtain ⟨rfl, rfl, _, _, _, _, h9, hlen, _⟩ := id hS
        have hbb : boardB (R : Int) (C : Int) = true := by unfold posB at hb; simp only [Bool.and_eq_true] at hb; exact hb.1.1
        have hcb : cellB (R : Int) (C : Int) k = decide (0 ≤ k ∧ k < (xs.length : Int)) := by
          unfold cellB; rw [hbb, hlen, Bool.true_and]; rfl
        rw [hcb] at hcell
        cases hk : decide (0 ≤ k ∧ k < (xs.length : Int)) with
        | false =>
          rw [hk] at hcell
          repeat (first | with_reducible refine wT ?_ | with_reducible refine wg1 rfl ?_ | with_reducible refine wpF ?_ | with_reducible refine wnT ?_ | with_reducible refine wnF ?_ | with_reducible refine wpv ?_ | with_reducible refine wsm ?_ | with_reducible refine wrB ?_ | with_reducible refine wbd (by assumption) ?_ | dsimp only)
          exact W.ret ⟨rfl, Keep.refl _ _⟩
        | true =>
          rw [hk] at hcell
          have hkb := of_decide_eq_true hk
          obtain ⟨K, rfl⟩ := Int.eq_ofNat_of_zero_le hkb.1
          have hK : K < xs.length := by omega
          have hgd : xs.getD (K : Int).toNat 0 = xs[K] := by
            rw [show ((K : Int).toNat) = K from rfl, List.getD_eq_getElem?_getD, List.getElem?_eq_getElem hK]; rfl
          rw [hgd]
          obtain ⟨h1, e1, k1⟩ := joinsOk g lf hlf n (by omega) R C 1 ht hp hl hf
          obtain ⟨h2, e2, k2⟩ := joinsOk g lf hlf n (by omega) R C 2 (ht.keep k1) (hp.keep k1) hl hf
          repeat (first | with_reducible refine wF ?_ | with_reducible refine wg1 rfl ?_ | with_reducible refine wpF ?_ | with_reducible refine wnT ?_ | with_reducible refine wpv ?_ | with_reducible refine wsm ?_ | with_reducible refine wbd (by assumption) ?_ | (with_reducible refine wat hp hK fun a hl => ?_) | dsimp only)
          refine weql (fun e => ?_) (fun e => ?_)
          · rw [decide_eq_true e]
            cases hj1 : joinsL (R : Int) (C : Int) xs 1 with
            | true =>
              rw [hj1] at e1
              repeat (first | with_reducible refine wg1 rfl ?_ | with_reducible refine wg0 rfl ?_ | with_reducible refine wpT ?_ | with_reducible refine wpF ?_ | with_reducible refine wnT ?_ | with_reducible refine wpv ?_ | with_reducible refine wsm ?_ | with_reducible refine wrB ?_ | with_reducible refine wbd (by assumption) ?_ | dsimp only)
              exact W.ret ⟨by simp, k1⟩
            | false =>
              rw [hj1] at e1
              cases hj2 : joinsL (R : Int) (C : Int) xs 2 with
              | true =>
                rw [hj2] at e2
                repeat (first | with_reducible refine wg1 rfl ?_ | with_reducible refine wpT ?_ | with_reducible refine wnT ?_ | with_reducible refine wnF ?_ | with_reducible refine wpv ?_ | with_reducible refine wsm ?_ | with_reducible refine wrB ?_ | with_reducible refine wbd (by assumption) ?_ | dsimp only)
                exact W.ret ⟨by simp, k1.trans (k2.mono k1.1)⟩
              | false =>
                rw [hj2] at e2
                repeat (first | with_reducible refine wg1 rfl ?_ | with_reducible refine wpT ?_ | with_reducible refine wnF ?_ | with_reducible refine wpv ?_ | with_reducible refine wsm ?_ | with_reducible refine wrB ?_ | with_reducible refine wbd (by assumption) ?_ | dsimp only)
                exact W.ret ⟨by simp, k1.trans (k2.mono k1.1)⟩
          · rw [decide_eq_false e]
            repeat (first | with_reducible refine wg0 rfl ?_ | with_reducible refine wpF ?_ | with_reducible refine wsm ?_ | with_reducible refine wrB ?_ | dsimp only)
            exact W.ret ⟨by simp, Keep.refl _ _⟩
  obtain ⟨_, h', e, rfl, k⟩ := this
  exact ⟨h', e, k⟩

theorem moveOkOk (hlf : 1000 < lf) : MoveOkOk g lf := fun N hN r c k pl _ _ _ ht hp hl hf => moveOk_W g lf hlf N (by omega) r c k pl ht hp hl hf

theorem clone_W {xs : List Int} {p : PV} {h : PHeap} (hp : IntSl .i64 h p xs) (hx : 0 < xs.length) (hl : xs.length ≤ 2 ^ 36) (N : Nat) (hN : 1 ≤ N) :
    W (CL g lf N fn_slices_Clone___int_int_ [p] h) fun q h' => OwnSl h.length h' q xs ∧ Keep h.length h h' := by
  obtain ⟨n, rfl⟩ : ∃ n, N = n + 1 := ⟨N - 1, by omega⟩
  obtain ⟨v, q, h2, e2, e3, o2, k2⟩ := copy_all hp hx hl
  rw [slices_Clone___int_int_.call_eq]
  unfold slices_Clone___int_int_.main
  simp only [env_buildSlice, env_bin, env_append]
  rcases hp with ⟨rfl, rfl⟩ | ⟨id, off, rfl, hc⟩
  · simp at hx
  · refine wnilF ?_
    repeat (first | with_reducible refine wF ?_ | with_reducible refine wbd (by assumption) ?_ | with_reducible refine wresO (by assumption) ?_ | dsimp only)
    exact W.ret ⟨o2, k2⟩

theorem playedOk (hlf : 1000 < lf) : PlayedOk g lf := by
  intro N hN r c k pl xs p h ht hp hl hf
  obtain ⟨n, rfl⟩ : ∃ n, N = n + 1 := ⟨N - 1, by omega⟩
  obtain ⟨h1, e1, k1⟩ := moveOk_W g lf hlf n (by omega) r c k pl ht hp hl hf
  have : W (CL g lf (n + 1) fn_impl_Played [.int .i64 r, .int .i64 c, p, .int .i64 k, .int .i64 pl] h) fun v h' => ∃ q, v = .tup [q, .bool (moveL r c xs k pl)] ∧ OwnSl h.length h' q (playedL r c xs k pl) ∧ Keep h.length h h' := by
    rw [impl_Played.call_eq]
    unfold impl_Played.main
    simp only [env_C, env_store, env_un, env_indexAddr]
    unfold playedL
    cases hm : moveL r c xs k pl with
    | false =>
      rw [hm] at e1
      repeat (first | with_reducible refine wT ?_ | with_reducible refine wnF ?_ | with_reducible refine wrB ?_ | with_reducible refine wrN ?_ | with_reducible refine wbd (by assumption) ?_ | dsimp only)
      exact W.ret ⟨_, rfl, OwnSl.nil _ _, k1⟩
    | true =>
      rw [hm] at e1
      obtain ⟨K, rfl, hK⟩ := moveL_cell hm
      repeat (first | with_reducible refine wF ?_ | with_reducible refine wnT ?_ | with_reducible refine wbd (by assumption) ?_ | dsimp only | simp only [env_C, env_g, env_lf, env_pick, env_alloc, env_box, env_build, env_buildSlice, env_load, env_store, env_ptr, env_bin, env_un, env_conv, env_make, env_slice, env_fieldAddr, env_field, env_indexAddr, env_index, env_extract, env_len, env_append, env_max, env_min, env_makeMap, env_lookup, env_update])
      refine wcall (clone_W g lf (hp.keep k1) (by omega) (by omega) n (by omega)) fun q h2 ⟨o2, k2⟩ => ?_
      repeat (first | with_reducible refine wrB ?_ | (refine wst o2 hK fun h3 o3 k3 l3 a e4 => ?_) | with_reducible refine wresO (by assumption) ?_ | dsimp only)
      skip
      exact W.ret ⟨_, rfl, o3.mono k1.1, k1.trans ((k2.trans k3).mono k1.1)⟩
  obtain ⟨_, h', e, q, rfl, o, k⟩ := this
  exact ⟨q, h', e, o, k⟩

/-! ### who wins -/
theorem winnerOk (hbig : Big g) (hlf : 1000 < lf) : WinnerOk g lf := by
  intro N hN r c t xs p h ht hp hl hf
  obtain ⟨n, rfl⟩ : ∃ n, N = n + 1 := ⟨N - 1, by omega⟩
  have hpos := positionOk_N g lf n (by omega) r c hp (by omega) hf
  have hplay := playerOk_W g lf n (by omega) h t
  have : W (CL g lf (n + 1) fn_impl_WinnerOf [.int .i64 r, .int .i64 c, p, .int .i64 t] h) fun v h' => v = .int .i64 (winL r c xs t) ∧ Keep h.length h h' := by
    rw [impl_WinnerOf.call_eq]
    unfold impl_WinnerOf.main
    simp only [env_C, env_pick, env_un]
    cases hb : posB r c xs with
    | false =>
      rw [hb] at hpos
      repeat (first | with_reducible refine wT ?_ | with_reducible refine wg0 rfl ?_ | with_reducible refine wpT ?_ | with_reducible refine wnF ?_ | with_reducible refine wsm ?_ | with_reducible refine wrI ?_ | with_reducible refine wbd (by assumption) ?_ | dsimp only)
      exact W.ret ⟨by rw [winL_none (.inl hb)], Keep.refl _ _⟩
    | true =>
      rw [hb] at hpos
      cases hpl : playerB t with
      | false =>
        rw [hpl] at hplay
        repeat (first | with_reducible refine wT ?_ | with_reducible refine wg1 rfl ?_ | with_reducible refine wpF ?_ | with_reducible refine wnT ?_ | with_reducible refine wnF ?_ | with_reducible refine wpv ?_ | with_reducible refine wsm ?_ | with_reducible refine wrI ?_ | with_reducible refine wbd (by assumption) ?_ | dsimp only)
        refine W.ret ⟨?_, Keep.refl _ _⟩
        unfold winL; rw [hpl, Bool.and_false]; rfl
      | true =>
        rw [hpl] at hplay
        obtain ⟨R, C, hS⟩ := sides_of hb
        obtain ⟨T, rfl, hT⟩ := player_of hpl
        have hB := board_of_sides hS
        obtain ⟨rfl, rfl, _, _, _, _, h9, hlen, _⟩ := id hS
        repeat (first | with_reducible refine wF ?_ | with_reducible refine wg1 rfl ?_ | with_reducible refine wpF ?_ | with_reducible refine wnT ?_ | with_reducible refine wpv ?_ | with_reducible refine wsm ?_ | with_reducible refine wbd (by assumption) ?_ | dsimp only)
        refine wcall (newSearch_W g lf hB n (by omega) hlf ht.1) fun v h1 ⟨s, m, hv, hs, k1, l1, l2⟩ => ?_
        subst hv
        repeat (first | dsimp only)
        refine wcall (standingOf_W g lf (hp.keep k1) (by omega) T n (by omega) hlf) fun v h2 ⟨hv, k2⟩ => ?_
        subst hv
        repeat (first | dsimp only)
        refine wcall (sWinner_W g lf hB hbig hlf 9 _ _ _ _ n h2 (Nat.le_trans (fr_le _ _ _) h9) (stands_of hS hT) (by omega) (hs.keep k2) ((ht.2.keep k1).keep k2)) fun v h3 ⟨hv, hs3, k3⟩ => ?_
        subst hv
        repeat (first | with_reducible refine wrI ?_ | dsimp only)
        exact W.ret ⟨by rw [winL_eq hb hT], (k1.trans (k2.mono k1.1)).kbs (Nat.le_refl _) k3 l2⟩
  obtain ⟨_, h', e, rfl, k⟩ := this
  exact ⟨h', e, k⟩

theorem who_zero {R C : Nat} {xs : List Int} (hb : posB (R : Int) (C : Int) xs = true) : whoN R C (setL xs 1) (setL xs 2) = 0 ↔ joinsL (R : Int) (C : Int) xs 1 = false ∧ joinsL (R : Int) (C : Int) xs 2 = false := by
  rw [joins_one hb, joins_two hb]
  unfold whoN
  cases joinsN R C 1 (setL xs 1) <;> cases joinsN R C 2 (setL xs 2) <;> simp

/-- The winning cells, out of the set that the search finds. -/
theorem winCells_list {R C T S : Nat} {xs : List Int} (hb : posB (R : Int) (C : Int) xs = true) (hS : Sides (R : Int) (C : Int) R C xs) (hT : T = 1 ∨ T = 2)
    (hSb : ∀ k, S.testBit k = true ↔ whoN R C (setL xs 1) (setL xs 2) = 0 ∧ (setL xs 0).testBit k = true ∧ winN R C (putA T k (setL xs 1)) (putB T k (setL xs 2)) (3 - T) = T) :
    winCellsL (R : Int) (C : Int) xs (T : Int) = listN S := by
  have hx9 : xs.length ≤ 9 := by have := hS.2.2.2.2.2.2.2.1; have := hS.2.2.2.2.2.2.1; omega
  have hT' : 3 - T = 1 ∨ 3 - T = 2 := by omega
  have e3 : (3 : Int) - (T : Int) = ((3 - T : Nat) : Int) := by omega
  rw [listN_filter]
  unfold winCellsL
  congr 1
  have h9 : List.range 9 = List.range xs.length ++ (List.range' xs.length (9 - xs.length)) := by
    rw [List.range_eq_range', List.range_eq_range', show 9 = xs.length + (9 - xs.length) by omega, ← List.range'_append_1]; simp
  rw [h9, List.filter_append]
  have hnil : (List.range' xs.length (9 - xs.length)).filter (fun k => S.testBit k) = [] := by
    rw [List.filter_eq_nil_iff]
    intro k hk
    rw [List.mem_range'_1] at hk
    intro h
    have := ((hSb k).1 h).2.1
    have := set_in hS this
    have := hS.2.2.2.2.2.2.2.1
    omega
  rw [hnil, List.append_nil]
  apply List.filter_congr
  intro k hk
  rw [Bool.eq_iff_iff, winsB_iff, moveL_iff, hSb, who_zero hb, setL_bit]
  constructor
  · rintro ⟨⟨_, _, h3, h4, h5⟩, h6⟩
    rw [e3, winL_set hb hT hT' h3] at h6
    exact ⟨⟨h4, h5⟩, h3, by omega⟩
  · rintro ⟨⟨h4, h5⟩, h3, h6⟩
    refine ⟨⟨hb, playerB_of hT, h3, h4, h5⟩, ?_⟩
    rw [e3, winL_set hb hT hT' h3]; omega

theorem winCellsOk (hbig : Big g) (hlf : 1000 < lf) : WinCellsOk g lf := by
  intro N hN r c pl xs p h ht hp hl hf
  obtain ⟨n, rfl⟩ : ∃ n, N = n + 1 := ⟨N - 1, by omega⟩
  have hpos := positionOk_N g lf n (by omega) r c hp (by omega) hf
  have hplay := playerOk_W g lf n (by omega) h pl
  suffices this : W (CL g lf (n + 1) fn_impl_WinningCells [.int .i64 r, .int .i64 c, p, .int .i64 pl] h) fun q h' => OwnSl h.length h' q (winCellsL r c xs pl) ∧ Keep h.length h h' by
    obtain ⟨q, h', e, o, k⟩ := this
    exact ⟨q, h', e, o, k⟩
  rw [impl_WinningCells.call_eq]
  unfold impl_WinningCells.main
  simp only [env_C, env_pick, env_un]
  cases hb : posB r c xs with
  | false =>
    rw [hb] at hpos
    rw [winCellsL_none (.inl hb)]
    repeat (first | with_reducible refine wT ?_ | with_reducible refine wg0 rfl ?_ | with_reducible refine wpT ?_ | with_reducible refine wnF ?_ | with_reducible refine wsm ?_ | with_reducible refine wrN ?_ | with_reducible refine wbd (by assumption) ?_ | dsimp only)
    exact W.ret ⟨OwnSl.nil _ _, Keep.refl _ _⟩
  | true =>
    rw [hb] at hpos
    cases hpl : playerB pl with
    | false =>
      rw [hpl] at hplay
      have : winCellsL r c xs pl = [] := by
        unfold winCellsL
        rw [List.filter_eq_nil_iff.2, List.map_nil]
        intro k _ hk
        rw [winsB_iff, moveL_iff, hpl] at hk
        exact absurd hk.1.2.1 (by decide)
      rw [this]
      repeat (first | with_reducible refine wT ?_ | with_reducible refine wg1 rfl ?_ | with_reducible refine wpF ?_ | with_reducible refine wnT ?_ | with_reducible refine wnF ?_ | with_reducible refine wpv ?_ | with_reducible refine wsm ?_ | with_reducible refine wrN ?_ | with_reducible refine wbd (by assumption) ?_ | dsimp only)
      exact W.ret ⟨OwnSl.nil _ _, Keep.refl _ _⟩
    | true =>
      rw [hpl] at hplay
      obtain ⟨R, C, hS⟩ := sides_of hb
      obtain ⟨T, rfl, hT⟩ := player_of hpl
      have hB := board_of_sides hS
      obtain ⟨rfl, rfl, _, _, _, _, h9, hlen, _⟩ := id hS
      repeat (first | with_reducible refine wF ?_ | with_reducible refine wg1 rfl ?_ | with_reducible refine wpF ?_ | with_reducible refine wnT ?_ | with_reducible refine wpv ?_ | with_reducible refine wsm ?_ | with_reducible refine wbd (by assumption) ?_ | dsimp only)
      refine wcall (newSearch_W g lf hB n (by omega) hlf ht.1) fun v h1 ⟨s, m, hv, hs, k1, l1, l2⟩ => ?_
      subst hv
      repeat (first | dsimp only)
      refine wcall (standingOf_W g lf (hp.keep k1) (by omega) T n (by omega) hlf) fun v h2 ⟨hv, k2⟩ => ?_
      subst hv
      repeat (first | dsimp only)
      refine wcall (sWinning_W g lf hB hbig hlf (stands_of hS hT) n (by omega) (hs.keep k2) ((ht.2.keep k1).keep k2)) fun v h3 ⟨S, hv, hS9, hSb, hs3, k3⟩ => ?_
      subst hv
      have kk := (k1.trans (k2.mono k1.1)).kbs (Nat.le_refl _) k3 l2
      repeat (first | dsimp only)
      refine wcall (cellsIn_W g lf hS9 n (by omega) hlf h3) fun q h4 ⟨o4, k4⟩ => ?_
      rw [winCells_list hb hS hT hSb]
      repeat (first | with_reducible refine wresO (by assumption) ?_ | dsimp only)
      exact W.ret ⟨o4.mono kk.1, kk.trans (k4.mono kk.1)⟩

/-! ### a line -/
theorem listN_head {S : Nat} (hS : S < 2 ^ 9) (h0 : S ≠ 0) (d : Int) : (listN S).headD d = (leastN S : Int) := by
  have hl := (least_ok hS h0).1
  have h9 := (least_ok hS h0).2.1
  rw [listN_filter]
  unfold leastN at *
  cases hf : (List.range 9).find? fun k => S.testBit k with
  | none =>
    rw [hf] at hl h9
    exact absurd h9 (by decide)
  | some k =>
    have : ((List.range 9).filter fun k => S.testBit k).head? = some k := by rw [List.head?_filter, hf]
    cases hq : (List.range 9).filter fun k => S.testBit k with
    | nil => rw [hq] at this; cases this
    | cons a l =>
      rw [hq] at this
      cases this
      rfl

/-- A list of integers at an object of its own. -/
def SlAt (i : Nat) (h : PHeap) (p : PV) (ys : List Int) : Prop := (p = .nilsl ∧ ys = []) ∨ (p = .sl i 0 ys.length ∧ At h i (ys.map (.int .i64)))
theorem SlAt.keep {i : Nat} {h h' : PHeap} {p : PV} {ys : List Int} (s : SlAt i h p ys) (k : Keep h.length h h') : SlAt i h' p ys := by
  rcases s with s | ⟨a, b⟩
  · exact .inl s
  · exact .inr ⟨a, b.keep k⟩
theorem SlAt.kb {i m : Nat} {h h' : PHeap} {p : PV} {ys : List Int} (s : SlAt i h p ys) (k : KB m h h') (hn : i ≠ m) : SlAt i h' p ys := by
  rcases s with s | ⟨a, b⟩
  · exact .inl s
  · exact .inr ⟨a, b.kb k hn⟩
theorem SlAt.own {i n : Nat} {h : PHeap} {p : PV} {ys : List Int} (s : SlAt i h p ys) (hn : n ≤ i) : OwnSl n h p ys := by
  rcases s with s | ⟨a, b⟩
  · exact .inl s
  · exact .inr ⟨i, hn, a, b⟩
theorem wapS {Q : PV → PHeap → Prop} {i : Nat} {h : PHeap} {p : PV} {ys : List Int} (s : SlAt i h p ys) {x : Int} (hl : ys.length + 1 ≤ 2 ^ 36) {F : PV × PHeap → Res}
    (hf : ∀ p' h' j, SlAt j h' p' (ys ++ [x]) → KB i h h' → h.length ≤ j → W (F (p', h')) Q) :
    W ((buildSliceP Tryd.prog 23 1 [(0, .int .i64 x)] h).bind fun v => (appendP Tryd.prog 23 23 p v.1 v.2).bind F) Q := by
  have hb : buildSliceP Tryd.prog 23 1 [(0, .int .i64 x)] h = some (.sl h.length 0 1, h ++ [.own 1 [.int .i64 x]]) := by
    simp [buildSliceP, tyElem, tySize, tyZero, repeatCells, fillP, PV.cells, setCells]
  have hsrc : srcP (h ++ [.own 1 [.int .i64 x]]) 1 (.sl h.length 0 1) = some (1, [.int .i64 x]) := by
    simp [srcP, cellsAt, PObj.get]
  refine wbd hb ?_
  rcases s with ⟨rfl, rfl⟩ | ⟨rfl, h3⟩
  · refine wbd (v := (.sl (h.length + 1) 0 1, h ++ [.own 1 [.int .i64 x]] ++ [.own 1 [.int .i64 x]])) (by simp [appendP, tyElem, tySize, tySmall, hsrc]) ?_
    refine hf _ _ (h.length + 1) (.inr ⟨rfl, ?_⟩) ?_ (by omega)
    · unfold At; rw [List.getElem?_append_right (by simp)]; simp
    · rw [List.append_assoc]; exact (Keep.append _ _ _ (Nat.le_refl _)).kb
  · have hid := h3.lt
    have h3' : (h ++ [PObj.own 1 [.int .i64 x]])[i]? = some (.own 1 (ys.map (.int .i64))) := by rw [List.getElem?_append_left hid]; exact h3
    refine wbd (v := (.sl (h.length + 1) 0 (ys.length + 1), ((h ++ [PObj.own 1 [.int .i64 x]]).set i .dead ++ [PObj.own 1 (ys.map (.int .i64) ++ [.int .i64 x])]))) (by simp [appendP, tyElem, tySize, tySmall, hsrc, h3', hl]) ?_
    refine hf _ _ (h.length + 1) (.inr ⟨by simp, ?_⟩) ?_ (by omega)
    · unfold At; rw [List.getElem?_append_right (by simp)]; simp
    · refine ⟨by simp; omega, fun j hj hne => ?_⟩
      rw [List.getElem?_append_left (by simp; omega), List.getElem?_set_ne (by omega), List.getElem?_append_left hj]
theorem Sch.kbo {R C s m i : Nat} {h h' : PHeap} (hs : Sch R C h s m) (k : KB i h h') (h1 : s ≠ i) (h2 : m ≠ i) : Sch R C h' s m := by
  obtain ⟨a, es, b, c⟩ := hs; exact ⟨a.kb k h1, es, b.kb k h2, c⟩
theorem wresSl {Q : PV → PHeap → Prop} {i : Nat} {h : PHeap} {p : PV} {ys : List Int} (s : SlAt i h p ys) {f : PV → Res} (hf : W (f p) Q) : W ((resV p).bind f) Q := wbd (s.own (Nat.le_refl i)).res hf

theorem goB_who {R C : Nat} {xs : List Int} (hb : posB (R : Int) (C : Int) xs = true) : goB (R : Int) (C : Int) xs = (!decide (setL xs 0 = 0) && decide (whoN R C (setL xs 1) (setL xs 2) = 0)) := by
  have hw := who_zero (R := R) (C := C) hb
  unfold goB
  rw [Bool.and_assoc]
  congr 1
  rw [Bool.eq_iff_iff, decide_eq_true_iff, hw]
  simp

set_option maxHeartbeats 2000000 in
theorem lineOk (hbig : Big g) (hlf : 1000 < lf) : LineOk g lf := by
  intro N hN r c t xs p h ht hp hl hf
  obtain ⟨n, rfl⟩ : ∃ n, N = n + 1 := ⟨N - 1, by omega⟩
  have hpos := positionOk_N g lf n (by omega) r c hp (by omega) hf
  have hplay := playerOk_W g lf n (by omega) h t
  suffices this : W (CL g lf (n + 1) fn_impl_LinePlayed [.int .i64 r, .int .i64 c, p, .int .i64 t] h) fun q h' => OwnSl h.length h' q (lineL r c xs t) ∧ Keep h.length h h' by
    obtain ⟨q, h', e, o, k⟩ := this
    exact ⟨q, h', e, o, k⟩
  rw [impl_LinePlayed.call_eq]
  unfold impl_LinePlayed.main
  simp only [env_C, env_lf, env_pick, env_alloc, env_store, env_un]
  cases hb : posB r c xs with
  | false =>
    rw [hb] at hpos
    rw [lineL_none (.inl hb)]
    repeat (first | with_reducible refine wT ?_ | with_reducible refine wg0 rfl ?_ | with_reducible refine wpT ?_ | with_reducible refine wnF ?_ | with_reducible refine wsm ?_ | with_reducible refine wrN ?_ | with_reducible refine wbd (by assumption) ?_ | dsimp only)
    exact W.ret ⟨OwnSl.nil _ _, Keep.refl _ _⟩
  | true =>
    rw [hb] at hpos
    cases hpl : playerB t with
    | false =>
      rw [hpl] at hplay
      have : lineL r c xs t = [] := by unfold lineL; rw [hpl, Bool.and_false]; rfl
      rw [this]
      repeat (first | with_reducible refine wT ?_ | with_reducible refine wg1 rfl ?_ | with_reducible refine wpF ?_ | with_reducible refine wnT ?_ | with_reducible refine wnF ?_ | with_reducible refine wpv ?_ | with_reducible refine wsm ?_ | with_reducible refine wrN ?_ | with_reducible refine wbd (by assumption) ?_ | dsimp only)
      exact W.ret ⟨OwnSl.nil _ _, Keep.refl _ _⟩
    | true =>
      rw [hpl] at hplay
      obtain ⟨R, C, hS⟩ := sides_of hb
      obtain ⟨T, rfl, hT⟩ := player_of hpl
      have hB := board_of_sides hS
      obtain ⟨rfl, rfl, _, _, _, _, h9, hlen, _⟩ := id hS
      repeat (first | with_reducible refine wF ?_ | with_reducible refine wg1 rfl ?_ | with_reducible refine wpF ?_ | with_reducible refine wnT ?_ | with_reducible refine wpv ?_ | with_reducible refine wsm ?_ | with_reducible refine wbd (by assumption) ?_ | dsimp only)
      refine wcall (newSearch_W g lf hB n (by omega) hlf ht.1) fun v h1 ⟨s, m, hv, hs, k1, l1, l2⟩ => ?_
      subst hv
      repeat (first | dsimp only)
      refine wcall (standingOf_W g lf (hp.keep k1) (by omega) T n (by omega) hlf) fun v h2 ⟨hv, k2⟩ => ?_
      subst hv
      have hs2 := hs.keep k2
      have kk2 := k1.trans (k2.mono k1.1)
      repeat (first | dsimp only)
      refine walS fun h3 id o3 k3 l3 => ?_
      dsimp only at k3 l3 ⊢
      refine wstS o3 fun h4 o4 k4 => ?_
      have hs3 := hs2.keep k3
      have hsid : s ≠ id := by have := hs2.1.lt; omega
      have hmid : m ≠ id := by have := hs2.lt; omega
      have hs4 := hs3.kbo k4 hsid hmid
      have lid : h.length ≤ id := Nat.le_trans kk2.1 l3
      have kk4 := (kk2.trans (k3.mono kk2.1)).kbs (Nat.le_refl _) k4 lid
      have hline : lineL (R : Int) (C : Int) xs (T : Int) = lineF (R : Int) (C : Int) xs.length xs (T : Int) := by unfold lineL; rw [hb, hpl]; rfl
      have hpop : pop (setL xs 0) ≤ xs.length := by rw [hlen]; exact pop_le h9 (set_lt hS 0)
      have hx9 : xs.length ≤ 9 := by omega
      skip
      refine loopW (fun m' st => ∃ (zs ys : List Int) (U : Nat) (q : PV) (i id : Nat) (h5 : PHeap), st = impl_LinePlayed.st0 (.ptr s 0) q (.ptr id 0) h5 ∧ posB (R : Int) (C : Int) zs = true ∧ Sides (R : Int) (C : Int) R C zs ∧ (U = 1 ∨ U = 2) ∧
        At h5 id (stC (setL zs 0) (setL zs 1) (setL zs 2) U) ∧ Sch R C h5 s m ∧ SlAt i h5 q ys ∧ i ≠ id ∧ i ≠ s ∧ i ≠ m ∧ h.length ≤ i ∧ s ≠ id ∧ m ≠ id ∧ h.length ≤ id ∧ pop (setL zs 0) ≤ m' ∧ ys.length + m' ≤ 9 ∧ ys ++ lineF (R : Int) (C : Int) m' zs (U : Int) = lineL (R : Int) (C : Int) xs (T : Int) ∧ Keep h.length h h5) ?_ lf xs.length _ (by omega)
        ⟨xs, [], T, .nilsl, h4.length, id, h4, rfl, hb, hS, hT, o4, hs4, .inl ⟨rfl, rfl⟩, by have := o4.lt; omega, by have := hs4.1.lt; omega, by have := hs4.lt; omega, kk4.1, hsid, hmid, lid, hpop, by simpa using hx9, by rw [hline]; rfl, kk4⟩
      clear hS hT hline hpop hb hpos hplay
      rintro n1 m1 st ⟨zs, ys, U, q, i, id, h5, rfl, hb, hS, hU, o5, hs5, sl5, i1, i2, i3, i4, d1, d2, d3, hpop, hyl, hfl, k5⟩ next
      have ht5 := ht.2.keep k5
      have hf9 := set_lt9 hS 0
      have ha9 := set_lt9 hS 1
      have hb9 := set_lt9 hS 2
      have hst := stands_of hS hU
      have hgo := goB_who hb
      rw [impl_LinePlayed.body0_eq]
      unfold impl_LinePlayed.body0
      simp only [env_C, env_pick, env_alloc, env_buildSlice, env_load, env_store, env_bin, env_fieldAddr, env_indexAddr, env_append]
      have hstop : goB (R : Int) (C : Int) zs = false → ys = lineL (R : Int) (C : Int) xs (T : Int) := fun hg => by
        rw [← hfl]
        cases m1 with
        | zero => rw [lineF, List.append_nil]
        | succ m1 => rw [lineF, hg, if_neg (by decide), List.append_nil]
      by_cases e0 : setL zs 0 = 0
      · have hg : goB (R : Int) (C : Int) zs = false := by rw [hgo, decide_eq_true e0]; rfl
        have hys := hstop hg
        repeat (first | with_reducible refine wF ?_ | with_reducible refine wg0 rfl ?_ | with_reducible refine wpF ?_ | with_reducible refine wsm ?_ | (with_reducible refine wbd (fSt0 _) ?_) | (with_reducible refine wia30 ?_) | (with_reducible refine wbd (ld1 (by assumption) rfl) ?_) | (with_reducible refine wresSl sl5 ?_) | with_reducible refine wneqF (by omega) ?_ | rw [kLoop_exit] | rw [impl_LinePlayed.after0_se0_9_10_11_39] | dsimp only)
        exact W.ret ⟨hys ▸ sl5.own i4, k5⟩
      · obtain ⟨h6, e6, k6⟩ := joined_W g lf (f := setL zs 0) (t := U) hB (pos_sets hS) hbig hs5.1 ht5 n (by omega) hlf
        have o6 := o5.keep k6
        have hs6 := hs5.keep k6
        have sl6 := sl5.keep k6
        have kk6 := k5.trans (k6.mono k5.1)
        have ht6 := ht5.keep k6
        obtain ⟨w1, w2, w3⟩ := who_win (t := U) hB (pos_sets hS)
        repeat (first | with_reducible refine wg1 rfl ?_ | with_reducible refine wpv ?_ | with_reducible refine wsm ?_ | with_reducible refine wbd (by assumption) ?_ | (with_reducible refine wbd (fSt0 _) ?_) | (with_reducible refine wia30 ?_) | (with_reducible refine wbd (ld1 (by assumption) rfl) ?_) | (with_reducible refine wbd (ldS (by assumption)) ?_) | with_reducible refine wneqT (by omega) ?_ | dsimp only)
        refine weql (fun ew => ?_) (fun ew => ?_)
        · have hw0 : whoN R C (setL zs 1) (setL zs 2) = 0 := by omega
          have hg : goB (R : Int) (C : Int) zs = true := by rw [hgo, decide_eq_false e0, decide_eq_true hw0]; rfl
          repeat (first | with_reducible refine wT ?_ | with_reducible refine wpT ?_ | (with_reducible refine wbd (ldS (by assumption)) ?_))
          refine wcall (sWinning_W g lf hB hbig hlf hst n (by omega) hs6 ht6) fun v h7 ⟨S, hv, hS9, hSb, hs7, k7⟩ => ?_
          subst hv
          have o7 := o6.kb k7 (hs6.ne o6)
          have sl7 := sl6.kb k7 i3
          have kk7 := kk6.kbs (Nat.le_refl _) k7 l2
          have ht7 := ht.2.keep kk7
          have hwl := winCells_list hb hS hU hSb
          -- one step, to a cell that is known
          have step : ∀ k : Nat, k < 9 → (setL zs 0).testBit k = true → stepL (R : Int) (C : Int) zs (U : Int) = (k : Int) → ∀ F : PV → PV → PHeap → Res,
              (∀ (p' : PV) (h10 : PHeap) (j id' : Nat), At h10 id' (stC (setL (zs.set k (U : Int)) 0) (setL (zs.set k (U : Int)) 1) (setL (zs.set k (U : Int)) 2) (3 - U)) → Sch R C h10 s m → SlAt j h10 p' (ys ++ [(k : Int)]) → j ≠ id' → j ≠ s → j ≠ m → h.length ≤ j → s ≠ id' → m ≠ id' → h.length ≤ id' → Keep h.length h h10 → W (F p' (.ptr id' 0) h10) fun q h' => OwnSl h.length h' q (lineL (R : Int) (C : Int) xs (T : Int)) ∧ Keep h.length h h') →
              W ((buildSliceP Tryd.prog 23 1 [(0, .int .i64 (k : Int))] h7).bind fun v1 => (appendP Tryd.prog 23 23 q v1.1 v1.2).bind fun v2 =>
                (loadP Tryd.prog 58 (.ptr id 0) v2.2).bind fun v3 => (CL g lf n fn_impl_standing_after [v3, .int .i64 (k : Int)] v2.2).bind fun v4 =>
                (storeP Tryd.prog 58 (.ptr id 0) v4.1 v4.2).bind fun v5 => (loadP Tryd.prog 58 (.ptr id 0) v5).bind fun v6 =>
                (allocP Tryd.prog 58 v5).bind fun v7 => (storeP Tryd.prog 58 v7.1 v6 v7.2).bind fun v8 => F v2.1 v7.1 v8) fun q h' => OwnSl h.length h' q (lineL (R : Int) (C : Int) xs (T : Int)) ∧ Keep h.length h h' := by
            intro k hk9 hkf hstep F hF
            have hk0 := setL_bit.1 hkf
            obtain ⟨q1, q2⟩ := set_putA hU hk0
            have q0 := (set_more hS hU hk0).2.1
            refine wapS sl7 (by omega) fun p' h8 j sl8 k8 lj => ?_
            have o8 := o7.kb k8 (Ne.symm i1)
            have hs8 := hs7.kbo k8 (Ne.symm i2) (Ne.symm i3)
            have kk8 := kk7.kbs (Nat.le_refl _) k8 i4
            refine wbd (ldS o8) ?_
            refine wcall (after_W g lf hf9 ha9 hb9 hk9 hU n (by omega) h8) fun v h9 ⟨hv, k9⟩ => ?_
            subst hv
            have o9 := o8.keep k9
            refine wstS o9 fun h10 o10 k10 => ?_
            refine wbd (ldS o10) ?_
            have hjid : j ≠ id := by have := o7.lt; omega
            have sl10 := (sl8.keep k9).kb k10 hjid
            have hs10 := (hs8.keep k9).kbo k10 d1 d2
            have kk10 := (kk8.trans (k9.mono kk8.1)).kbs (Nat.le_refl _) k10 d3
            refine walS fun h11 id' o11 k11 l11 => ?_
            refine wstS o11 fun h12 o12 k12 => ?_
            have hs11 := hs10.keep k11
            have z1 : s ≠ id' := by have := hs10.1.lt; omega
            have z2 : m ≠ id' := by have := hs10.lt; omega
            have z3 : j ≠ id' := by
              have hlen8 : j < h8.length := by
                rcases sl8 with ⟨_, b⟩ | ⟨_, b⟩
                · simp at b
                · exact b.lt
              have := k9.1; have := k10.1; omega
            have z4 : h.length ≤ id' := Nat.le_trans kk10.1 l11
            rw [← q0, ← q1, ← q2] at o12
            exact hF p' h12 j id' o12 (hs11.kbo k12 z1 z2) ((sl10.keep k11).kb k12 z3) z3 (by have := hs7.1.lt; omega) (by have := hs7.lt; omega) (Nat.le_trans kk7.1 lj) z1 z2 z4 ((kk10.trans (k11.mono kk10.1)).kbs (Nat.le_refl _) k12 z4)
          -- and what comes of it
          have fin : ∀ k : Nat, k < 9 → (setL zs 0).testBit k = true → stepL (R : Int) (C : Int) zs (U : Int) = (k : Int) →
              ∀ (p' : PV) (h10 : PHeap) (j id' : Nat), At h10 id' (stC (setL (zs.set k (U : Int)) 0) (setL (zs.set k (U : Int)) 1) (setL (zs.set k (U : Int)) 2) (3 - U)) → Sch R C h10 s m → SlAt j h10 p' (ys ++ [(k : Int)]) → j ≠ id' → j ≠ s → j ≠ m → h.length ≤ j → s ≠ id' → m ≠ id' → h.length ≤ id' → Keep h.length h h10 →
              W (kLoop (ev (Env.cx (env g lf n) Tryd.prog impl_LinePlayed.kl) impl_LinePlayed.lp0) n1 (impl_LinePlayed.K0 (env g lf n) (kTop Tryd.prog Tryd.f38)) .normal (impl_LinePlayed.st0 (.ptr s 0) p' (.ptr id' 0) h10)) fun q h' => OwnSl h.length h' q (lineL (R : Int) (C : Int) xs (T : Int)) ∧ Keep h.length h h' := by
            intro k hk9 hkf hstep p' h10 j id' o10 hs10 sl10 z1 z2 z3 z4 z5 z6 z7 kk10
            have hk0 := setL_bit.1 hkf
            have q0 := (set_more hS hU hk0).2.1
            have hpw := pop_without hf9 hkf
            cases m1 with
            | zero => omega
            | succ m1 =>
              have e3 : (3 : Int) - (U : Int) = ((3 - U : Nat) : Int) := by omega
              have hfl' := hfl
              rw [lineF, hg, if_pos rfl, hstep, e3] at hfl'
              refine next m1 _ (Nat.lt_succ_self m1) ⟨zs.set k (U : Int), ys ++ [(k : Int)], 3 - U, p', j, id', h10, rfl, pos_set hb hU k, sides_set hb hS hU, by omega, o10, hs10, sl10, z1, z2, z3, z4, z5, z6, z7, by rw [q0]; omega, by simp; omega, ?_, kk10⟩
              rw [List.append_assoc]; exact hfl'
          repeat (first | dsimp only)
          refine weql (fun es => ?_) (fun es => ?_)
          · have hS0 : S = 0 := by omega
            have hst0 : stepL (R : Int) (C : Int) zs (U : Int) = (leastN (setL zs 0) : Int) := by
              unfold stepL; rw [hwl, hS0, show listN 0 = [] from rfl]
              exact listN_head hf9 e0 0
            have el := leastIn_W g lf hf9 e0 hbig ht7 n (by omega)
            obtain ⟨c1, c2, c3, c4⟩ := least_ok hf9 e0
            repeat (first | with_reducible refine wT ?_ | with_reducible refine wbd (by assumption) ?_ | (with_reducible refine wbd (fSt0 _) ?_) | (with_reducible refine wia30 ?_) | (with_reducible refine wbd (ld1 (by assumption) rfl) ?_) | dsimp only)
            exact step _ c2 c1 hst0 (fun x y hh => kLoop (ev (Env.cx (env g lf n) Tryd.prog impl_LinePlayed.kl) impl_LinePlayed.lp0) n1 (impl_LinePlayed.K0 (env g lf n) (kTop Tryd.prog Tryd.f38)) .normal (impl_LinePlayed.st0 (.ptr s 0) x y hh)) (fin _ c2 c1 hst0)
          · have hS0 : S ≠ 0 := by omega
            have hst0 : stepL (R : Int) (C : Int) zs (U : Int) = (leastN S : Int) := by
              unfold stepL; rw [hwl]
              exact listN_head hS9 hS0 _
            have el := leastIn_W g lf hS9 hS0 hbig ht7 n (by omega)
            obtain ⟨c1, c2, c3, c4⟩ := least_ok hS9 hS0
            have c1' := ((hSb _).1 c1).2.1
            repeat (first | with_reducible refine wF ?_ | with_reducible refine wbd (by assumption) ?_ | dsimp only)
            exact step _ c2 c1' hst0 (fun x y hh => kLoop (ev (Env.cx (env g lf n) Tryd.prog impl_LinePlayed.kl) impl_LinePlayed.lp0) n1 (impl_LinePlayed.K0 (env g lf n) (kTop Tryd.prog Tryd.f38)) .normal (impl_LinePlayed.st0 (.ptr s 0) x y hh)) (fin _ c2 c1' hst0)
        · have hw0 : ¬ whoN R C (setL zs 1) (setL zs 2) = 0 := by omega
          have hg : goB (R : Int) (C : Int) zs = false := by rw [hgo, decide_eq_false hw0, Bool.and_false]
          have hys := hstop hg
          repeat (first | with_reducible refine wF ?_ | with_reducible refine wpT ?_ | (with_reducible refine wresSl sl6 ?_) | rw [kLoop_exit] | rw [impl_LinePlayed.after0_se0_9_10_11_39])
          exact W.ret ⟨hys ▸ sl6.own i4, kk6⟩

end Go.Proofs.YtkbnngklbfnkiaaDoor

