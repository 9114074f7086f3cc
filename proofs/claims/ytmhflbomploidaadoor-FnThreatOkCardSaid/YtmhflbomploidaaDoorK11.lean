/- Texts of this seat, in their order, put together by program. -/
import Derived.Test.YtmhflbomploidaaDoorK10
set_option linter.unusedSimpArgs false
set_option linter.unusedVariables false
set_option linter.unusedSectionVars false
/- The laws of chapter 6 over what the program's functions are asked to compute, continued. -/
set_option maxRecDepth 20000
namespace Go.Proofs.YtmhflbomploidaaDoor
open Go Go.Ip G

theorem mustL_none {r c : Int} {xs : List Int} {pl : Int} (h : posB r c xs = false ∨ 2 < pl) : mustL r c xs pl = [] := by
  unfold mustL
  rcases h with h | h
  · rw [h]; rfl
  · rw [show playerB pl = false by unfold playerB; exact decide_eq_false (by omega), Bool.and_false]; rfl
theorem must_none {R C P : Nat} {xs : List Int} (hb : posB (R : Int) (C : Int) xs = true) (hP : P = 1 ∨ P = 2) (h : mustN (R : Int) (C : Int) xs (P : Int) = 0) (hj : joinsL (R : Int) (C : Int) xs (P : Int) = false) : winL (R : Int) (C : Int) xs (P : Int) = 3 - (P : Int) := by
  have hS := sides_pos hb
  have hO : 3 - P = 1 ∨ 3 - P = 2 := by omega
  have hcast : ((3 - P : Nat) : Int) = 3 - (P : Int) := by omega
  obtain ⟨W, hW, hW2⟩ := winL_cases hb hP
  cases hj2 : joinsL (R : Int) (C : Int) xs ((3 - P : Nat) : Int) with
  | true => rw [winL_done hb hS hO hP hj2, hcast]
  | false =>
    have h12 : joinsL (R : Int) (C : Int) xs 1 = false ∧ joinsL (R : Int) (C : Int) xs 2 = false := by
      rcases hP with rfl | rfl
      · exact ⟨hj, hj2⟩
      · exact ⟨hj2, hj⟩
    have hne : ¬ winL (R : Int) (C : Int) xs (P : Int) = (P : Int) := fun hh => by
      have hlen := (winCells_some hb hS hP h12.1 h12.2).2 hh
      obtain ⟨k, _, hk⟩ := winCells_mem.1 (List.getElem_mem hlen)
      have := must_wins hb hP hk
      rw [h, Nat.zero_testBit] at this; cases this
    rw [hW] at hne ⊢
    have : W = 3 - P := by omega
    rw [this, hcast]

theorem bridges_sorted (R C A : Nat) : (bridgesN R C A).Pairwise (· < ·) := by
  unfold bridgesN
  rw [List.pairwise_map]
  exact (List.pairwise_lt_range.filter _).imp fun h => by omega

variable (g : Nat → PV) (lf n : Nat)

theorem fnThreatOk_calls (hTh : ThreatOkOk g lf) (hWi : WinnerOk g lf) (hWC : WinCellsOk g lf) {p : PV} {ys : List Int} {h : PHeap} (N : Nat) (hN : 45 ≤ N) (ha : Arg h p ys) (hlf : 1000 < lf) (ht : TabOk g h) :
    ∃ h', CL g lf N fn_laws_FnThreatOk [p] h = some (.bool true, h') := by
  obtain ⟨n, rfl⟩ : ∃ n, N = n + 1 := ⟨N - 1, by omega⟩
  apply W.yes
  rw [laws_FnThreatOk.call_eq]
  unfold laws_FnThreatOk.main
  simp only [env_C, env_lf, env_pick, env_bin, env_un, env_extract, env_len]
  have hlenp : lenP Tryd.prog 22 p = some (.int .i64 ys.length) := (ha.1 h (Keep.refl _ _)).len tyB
  by_cases hbig : (1048576 : Int) < (ys.length : Int)
  · repeat (first | with_reducible refine wT ?_ | with_reducible refine wrB ?_ | with_reducible refine wbd (by assumption) ?_ | with_reducible refine wgtrT (by omega) ?_)
    exact W.ret rfl
  obtain ⟨r, c, q, xs, pl, S, h1, e1, k1, hq0, hl, hp1, hp2, hS4⟩ := drawThreatOk_W g lf n (by omega) ha (by omega)
  have htF := tabF ht k1
  have hb1 : h1.length ≤ h1.length := Nat.le_refl _
  have k0 : Keep h1.length h1 h1 := Keep.refl _ _
  have hal : ∀ h2, CL g lf n fn_laws_alive [] h2 = some (.bool true, h2) := fun h2 => alive_calls g lf n (by omega) h2
  have hq : Fix h1.length h1 q xs := hq0.fix
  have hpos : ∀ h2, Keep h1.length h1 h2 → CL g lf n fn_spec_PositionOk [.int .i64 r, .int .i64 c, q] h2 = some (.bool (posB r c xs), h2) := fun h2 k2 => specPositionOk_N g lf n (by omega) r c (hq h2 k2) (by omega) (by omega)
  have hI : ∀ h2, Keep h1.length h1 h2 → ∃ h', CL g lf n fn_impl_ThreatOk [.int .i64 r, .int .i64 c, q, .int .i64 pl, .int .i64 (S : Int)] h2 = some (.bool (threatL r c xs pl (S : Int)), h') ∧ Keep h2.length h2 h' := fun h2 k2 => hTh n (by omega) r c pl (S : Int) (htF _ k2) (hq _ k2) (by omega) (by omega)
  have hSp : ∀ h2, Keep h1.length h1 h2 → ∃ h', CL g lf n fn_spec_ThreatOk [.int .i64 r, .int .i64 c, q, .int .i64 pl, .int .i64 (S : Int)] h2 = some (.bool (threatL r c xs pl (S : Int)), h') ∧ Keep h2.length h2 h' := fun h2 k2 => specThreatOk_calls g lf n (by omega) r c pl (S : Int) (hq _ k2) (by omega) (by omega) hlf
  have hlq : ∀ h2, Keep h1.length h1 h2 → lenP Tryd.prog 23 q = some (.int .i64 xs.length) := fun h2 k2 => (hq _ k2).len'
  by_cases hinv : posB r c xs = false ∨ 2 < pl
  · rw [threatL_none hinv] at hI
    rw [threatL_none hinv] at hSp
    cases hb : posB r c xs with
    | false =>
      rw [hb] at hpos
      repeat (first | with_reducible refine wT ?_ | with_reducible refine wF ?_ | with_reducible refine wg1 rfl ?_ | with_reducible refine wg0 rfl ?_ | with_reducible refine wpT ?_ | with_reducible refine wnF ?_ | with_reducible refine wsm ?_ | with_reducible refine wrB ?_ | with_reducible refine wx0 ?_ | with_reducible refine wx1 ?_ | with_reducible refine wx2 ?_ | with_reducible refine wx3 ?_ | with_reducible refine wx4 ?_ | with_reducible refine wbd (by assumption) ?_ | (with_reducible refine wneqBB ?_) | (with_reducible refine wbd (hpos _ (by assumption)) ?_) | (with_reducible refine wbd (hal _) ?_) | (with_reducible refine wcv (hI _ (by assumption)) (by assumption) hb1 fun _ _ => ?_) | (with_reducible refine wcv (hSp _ (by assumption)) (by assumption) hb1 fun _ _ => ?_) | with_reducible refine wgtrF (by omega) ?_ | dsimp only)
      exact W.ret rfl
    | true =>
      rw [hb] at hpos
      have hpl : 2 < pl := by
        rcases hinv with h | h
        · rw [hb] at h; cases h
        · exact h
      repeat (first | with_reducible refine wT ?_ | with_reducible refine wF ?_ | with_reducible refine wg1 rfl ?_ | with_reducible refine wpT ?_ | with_reducible refine wpF ?_ | with_reducible refine wnT ?_ | with_reducible refine wnF ?_ | with_reducible refine wpv ?_ | with_reducible refine wsm ?_ | with_reducible refine wrB ?_ | with_reducible refine wx0 ?_ | with_reducible refine wx1 ?_ | with_reducible refine wx2 ?_ | with_reducible refine wx3 ?_ | with_reducible refine wx4 ?_ | with_reducible refine wbd (by assumption) ?_ | (with_reducible refine wneqBB ?_) | (with_reducible refine wbd (hpos _ (by assumption)) ?_) | (with_reducible refine wbd (hal _) ?_) | (with_reducible refine wcv (hI _ (by assumption)) (by assumption) hb1 fun _ _ => ?_) | (with_reducible refine wcv (hSp _ (by assumption)) (by assumption) hb1 fun _ _ => ?_) | with_reducible refine wgtrT (by omega) ?_ | with_reducible refine wgtrF (by omega) ?_ | dsimp only)
      exact W.ret rfl
  have hb : posB r c xs = true := by
    cases e : posB r c xs with
    | true => rfl
    | false => exact (hinv (.inl e)).elim
  rw [hb] at hpos
  obtain ⟨R, C, hS⟩ := sides_of hb
  obtain ⟨P, rfl⟩ := Int.eq_ofNat_of_zero_le (show 0 ≤ pl by omega)
  have hP : P = 1 ∨ P = 2 := by
    have : ¬ 2 < (P : Int) := fun hh => hinv (.inr hh)
    omega
  have hO : 3 - P = 1 ∨ 3 - P = 2 := by omega
  have hcast : ((3 - P : Nat) : Int) = 3 - (P : Int) := by omega
  obtain ⟨rfl, rfl, s1, s2, s3, s4, s9, slen, sall⟩ := id hS
  have hpl2 : ¬ 2 < (P : Int) := fun hh => hinv (.inr hh)
  have hpow : 2 ^ xs.length ≤ 512 := Nat.pow_le_pow_right (n := 2) (by decide) (by omega : xs.length ≤ 9)
  have hpow1 : 1 ≤ 2 ^ xs.length := Nat.one_le_two_pow
  have h1s : 1 <<< xs.length = 2 ^ xs.length := Nat.one_shiftLeft _
  obtain ⟨M, hM⟩ : ∃ M, M = 2 ^ xs.length := ⟨_, rfl⟩
  rw [← hM] at hpow hpow1 h1s
  have hWL : ∀ h2, Keep h1.length h1 h2 → ∃ q' h', CL g lf n fn_impl_WinningCells [.int .i64 (R : Int), .int .i64 (C : Int), q, .int .i64 (3 - (P : Int))] h2 = some (q', h') ∧ OwnSl h2.length h' q' (winCellsL (R : Int) (C : Int) xs (3 - (P : Int))) ∧ Keep h2.length h2 h' := fun h2 k2 => hWC n (by omega) (R : Int) (C : Int) _ (htF _ k2) (hq _ k2) (by omega) (by omega)
  have hA : ∀ h2, Keep h1.length h1 h2 → ∃ h', CL g lf n fn_impl_ThreatOk [.int .i64 (R : Int), .int .i64 (C : Int), q, .int .i64 (P : Int), .int .i64 ((1 <<< xs.length - 1 : Nat) : Int)] h2 = some (.bool (threatL (R : Int) (C : Int) xs (P : Int) ((1 <<< xs.length - 1 : Nat) : Int)), h') ∧ Keep h2.length h2 h' := fun h2 k2 => hTh n (by omega) (R : Int) (C : Int) (P : Int) _ (htF _ k2) (hq _ k2) (by omega) (by omega)
  have hWW : ∀ h2, Keep h1.length h1 h2 → ∃ h', CL g lf n fn_impl_WinnerOf [.int .i64 (R : Int), .int .i64 (C : Int), q, .int .i64 (P : Int)] h2 = some (.int .i64 (winL (R : Int) (C : Int) xs (P : Int)), h') ∧ Keep h2.length h2 h' := fun h2 k2 => hWi n (by omega) (R : Int) (C : Int) _ (htF _ k2) (hq _ k2) (by omega) (by omega)
  have hkey : threatL (R : Int) (C : Int) xs (P : Int) ((1 <<< xs.length - 1 : Nat) : Int) = decide (winL (R : Int) (C : Int) xs (P : Int) = (P : Int)) := by
    rw [Nat.one_shiftLeft]
    rw [Bool.eq_iff_iff, threat_all hb hP, decide_eq_true_iff]
  rw [hkey] at hA
  obtain ⟨ok, hok⟩ : ∃ ok, ok = threatL (R : Int) (C : Int) xs (P : Int) (S : Int) := ⟨_, rfl⟩
  have hmet : ok = true → ∀ e ∈ winCellsL (R : Int) (C : Int) xs (3 - (P : Int)), ∃ K : Nat, e = (K : Int) ∧ K < 9 ∧ S >>> K % 2 = 1 := fun h e he => by
    rw [hok] at h
    obtain ⟨K, rfl, hK⟩ := winCells_mem.1 he
    have hSl : S < 2 ^ xs.length := by
      apply Classical.byContradiction
      intro hh
      rw [threatL_big hh] at h; cases h
    rw [← hcast] at hK
    have hk0 := (moveL_iff.1 (winsB_iff.1 hK).1).2.2.1
    have hKl := (List.getElem?_eq_some_iff.1 hk0).1
    exact ⟨K, rfl, by omega, (bit_iff S K).2 (wins_met hb hP hSl h hK)⟩
  rw [← hok] at hI hSp
  obtain ⟨WL, hWLd⟩ : ∃ WL, WL = winCellsL (R : Int) (C : Int) xs (3 - (P : Int)) := ⟨_, rfl⟩
  have hWLl : WL.length ≤ 10 := by rw [hWLd]; have := winCellsL_length (R : Int) (C : Int) xs (3 - (P : Int)); omega
  rw [← hWLd] at hmet hWL
  repeat (first | with_reducible refine wF ?_ | with_reducible refine wg1 rfl ?_ | with_reducible refine wpF ?_ | with_reducible refine wnT ?_ | with_reducible refine wpv ?_ | with_reducible refine wsm ?_ | with_reducible refine wx0 ?_ | with_reducible refine wx1 ?_ | with_reducible refine wx2 ?_ | with_reducible refine wx3 ?_ | with_reducible refine wx4 ?_ | with_reducible refine wbd (by assumption) ?_ | with_reducible refine wlen (by assumption) ?_ | (with_reducible refine wneqBB ?_) | (with_reducible refine wbd (hpos _ (by assumption)) ?_) | (with_reducible refine wcv (hI _ (by assumption)) (by assumption) hb1 fun _ _ => ?_) | (with_reducible refine wcv (hSp _ (by assumption)) (by assumption) hb1 fun _ _ => ?_) | (with_reducible refine wcl (hWL _ (by assumption)) (by assumption) hb1 fun qw hw ow fw kw => ?_) | with_reducible refine wsub1 (by omega) (by omega) ?_ | with_reducible refine wshl (by omega) ?_ | with_reducible refine wgtrF (by omega) ?_ | with_reducible refine wsub (by omega) ?_ | dsimp only)
  refine loopW (fun u s => ∃ (k : Nat), s = laws_FnThreatOk.st0 (.int .i64 (R : Int)) (.int .i64 (C : Int)) q (.int .i64 (P : Int)) (.int .i64 (S : Int)) (.bool ok) (.int .i64 ((1 <<< xs.length - 1 : Nat) : Int)) qw (.int .i64 (k : Int)) hw ∧ k + u = WL.length) ?_ lf WL.length _ (by omega) ⟨0, rfl, by omega⟩
  rintro n1 u s ⟨k, rfl, hku⟩ next
  have hlw := ow.int.len'
  rw [laws_FnThreatOk.body0_eq]
  unfold laws_FnThreatOk.body0
  simp only [env_pick, env_load, env_bin, env_indexAddr, env_len]
  cases hokc : ok with
  | false =>
    rw [hokc] at next
    cases u with
    | zero =>
      repeat (first | with_reducible refine wF ?_ | with_reducible refine wg1 rfl ?_ | with_reducible refine wg0 rfl ?_ | with_reducible refine wpT ?_ | with_reducible refine wpF ?_ | with_reducible refine wsm ?_ | with_reducible refine wrB ?_ | with_reducible refine wbd (by assumption) ?_ | (with_reducible refine weqlBB ?_) | (with_reducible refine wbd (hal _) ?_) | (with_reducible refine wcv (hA _ (by assumption)) (by assumption) hb1 fun _ _ => ?_) | (with_reducible refine wcv (hWW _ (by assumption)) (by assumption) hb1 fun _ _ => ?_) | (with_reducible refine weqD ?_) | with_reducible refine wlssF (by omega) ?_ | rw [kLoop_exit] | rw [laws_FnThreatOk.after0_se0_3_4_5_6_7_8_9_10_11_67] | dsimp only | simp only [env_C, env_g, env_lf, env_pick, env_alloc, env_box, env_build, env_buildSlice, env_load, env_store, env_ptr, env_bin, env_un, env_conv, env_make, env_slice, env_fieldAddr, env_field, env_indexAddr, env_index, env_extract, env_len, env_append, env_max, env_min, env_makeMap, env_lookup, env_update])
      exact W.ret rfl
    | succ u =>
      repeat (first | with_reducible refine wF ?_ | with_reducible refine wg1 rfl ?_ | with_reducible refine wpT ?_ | with_reducible refine wsm ?_ | with_reducible refine wrB ?_ | with_reducible refine wbd (by assumption) ?_ | (with_reducible refine weqlBB ?_) | (with_reducible refine wbd (hal _) ?_) | (with_reducible refine wcv (hA _ (by assumption)) (by assumption) hb1 fun _ _ => ?_) | (with_reducible refine wcv (hWW _ (by assumption)) (by assumption) hb1 fun _ _ => ?_) | (with_reducible refine weqD ?_) | with_reducible refine wlssT (by omega) ?_ | rw [kLoop_exit] | rw [laws_FnThreatOk.after0_se0_3_4_5_6_7_8_9_10_11_67] | dsimp only | simp only [env_C, env_g, env_lf, env_pick, env_alloc, env_box, env_build, env_buildSlice, env_load, env_store, env_ptr, env_bin, env_un, env_conv, env_make, env_slice, env_fieldAddr, env_field, env_indexAddr, env_index, env_extract, env_len, env_append, env_max, env_min, env_makeMap, env_lookup, env_update])
      exact W.ret rfl
  | true =>
    rw [hokc] at next
    cases u with
    | zero =>
      repeat (first | with_reducible refine wF ?_ | with_reducible refine wg1 rfl ?_ | with_reducible refine wg0 rfl ?_ | with_reducible refine wpT ?_ | with_reducible refine wpF ?_ | with_reducible refine wsm ?_ | with_reducible refine wrB ?_ | with_reducible refine wbd (by assumption) ?_ | (with_reducible refine weqlBB ?_) | (with_reducible refine wbd (hal _) ?_) | (with_reducible refine wcv (hA _ (by assumption)) (by assumption) hb1 fun _ _ => ?_) | (with_reducible refine wcv (hWW _ (by assumption)) (by assumption) hb1 fun _ _ => ?_) | (with_reducible refine weqD ?_) | with_reducible refine wlssF (by omega) ?_ | rw [kLoop_exit] | rw [laws_FnThreatOk.after0_se0_3_4_5_6_7_8_9_10_11_67] | dsimp only | simp only [env_C, env_g, env_lf, env_pick, env_alloc, env_box, env_build, env_buildSlice, env_load, env_store, env_ptr, env_bin, env_un, env_conv, env_make, env_slice, env_fieldAddr, env_field, env_indexAddr, env_index, env_extract, env_len, env_append, env_max, env_min, env_makeMap, env_lookup, env_update])
      exact W.ret rfl
    | succ u =>
      have hk : k < WL.length := by omega
      obtain ⟨K, hK, hK9, hbit⟩ := hmet hokc WL[k] (List.getElem_mem hk)
      obtain ⟨a, ea, la⟩ := ow.int.at' hk
      rw [hK] at la
      repeat (first | with_reducible refine wT ?_ | with_reducible refine wF ?_ | with_reducible refine wg1 rfl ?_ | with_reducible refine wpT ?_ | with_reducible refine wsm ?_ | with_reducible refine wbd (by assumption) ?_ | with_reducible refine wadd1 (by omega) ?_ | with_reducible refine wrem2 ?_ | with_reducible refine wshr (by omega) ?_ | with_reducible refine wlssT (by omega) ?_ | with_reducible refine weqlF (by omega) ?_ | dsimp only)
      exact next _ _ (Nat.lt_succ_self u) ⟨k + 1, rfl, by omega⟩

theorem fnMustCells_calls (hMu : MustOk g lf) (hJ : JoinsOk g lf) (hWi : WinnerOk g lf) (hWC : WinCellsOk g lf) {p : PV} {ys : List Int} {h : PHeap} (N : Nat) (hN : 45 ≤ N) (ha : Arg h p ys) (hlf : 1000 < lf) (ht : TabOk g h) :
    ∃ h', CL g lf N fn_laws_FnMustCells [p] h = some (.bool true, h') := by
  obtain ⟨n, rfl⟩ : ∃ n, N = n + 1 := ⟨N - 1, by omega⟩
  apply W.yes
  rw [laws_FnMustCells.call_eq]
  unfold laws_FnMustCells.main
  simp only [env_C, env_lf, env_pick, env_bin, env_un, env_extract, env_len]
  have hlenp : lenP Tryd.prog 22 p = some (.int .i64 ys.length) := (ha.1 h (Keep.refl _ _)).len tyB
  by_cases hbig : (1048576 : Int) < (ys.length : Int)
  · repeat (first | with_reducible refine wT ?_ | with_reducible refine wrB ?_ | with_reducible refine wbd (by assumption) ?_ | with_reducible refine wgtrT (by omega) ?_)
    exact W.ret rfl
  obtain ⟨r, c, q, xs, pl, h1, e1, k1, hq0, hl, hp1, hp2, hcnt⟩ := drawMustCells_W g lf n (by omega) ha (by omega)
  have htF := tabF ht k1
  have hb1 : h1.length ≤ h1.length := Nat.le_refl _
  have k0 : Keep h1.length h1 h1 := Keep.refl _ _
  have hal : ∀ h2, CL g lf n fn_laws_alive [] h2 = some (.bool true, h2) := fun h2 => alive_calls g lf n (by omega) h2
  have hq : Fix h1.length h1 q xs := hq0.fix
  have hpos : ∀ h2, Keep h1.length h1 h2 → CL g lf n fn_spec_PositionOk [.int .i64 r, .int .i64 c, q] h2 = some (.bool (posB r c xs), h2) := fun h2 k2 => specPositionOk_N g lf n (by omega) r c (hq h2 k2) (by omega) (by omega)
  obtain ⟨q2, h2, e2, o2, k2⟩ := hMu n (by omega) r c pl (htF _ k0) (hq _ k0) (by omega) (by omega)
  obtain ⟨q3, h3, e3, o3, k3⟩ := specMustCells_calls g lf n (by omega) r c pl (hq _ k2) (by omega) (by omega) hlf
  have k13 := k2.trans (k3.mono k2.1)
  have hll := mustL_length r c xs pl
  have e4 := sameInts_N g lf n (by omega) (o2.keep k3).int o3.int (by omega) (by omega)
  rw [decide_eq_true rfl] at e4
  have o2' := o2.keep k3
  have f2 : Fix h3.length h3 q2 (mustL r c xs pl) := o2'.int.fix
  have empty : mustL r c xs pl = [] → lenP Tryd.prog 23 q2 = some (.int .i64 0) := fun hh => by
    have := o2'.int.len'
    rw [hh] at this; exact this
  cases hb : posB r c xs with
  | false =>
    have hlen := empty (mustL_none (.inl hb))
    rw [hb] at hpos
    repeat (first | with_reducible refine wT ?_ | with_reducible refine wF ?_ | with_reducible refine wg1 rfl ?_ | with_reducible refine wg0 rfl ?_ | with_reducible refine wpT ?_ | with_reducible refine wnT ?_ | with_reducible refine wnF ?_ | with_reducible refine wsm ?_ | with_reducible refine wrB ?_ | with_reducible refine wx0 ?_ | with_reducible refine wx1 ?_ | with_reducible refine wx2 ?_ | with_reducible refine wx3 ?_ | with_reducible refine wbd (by assumption) ?_ | (with_reducible refine wbd (hpos _ (by assumption)) ?_) | (with_reducible refine wbd (hal _) ?_) | (with_reducible refine weqlT rfl ?_) | with_reducible refine wgtrF (by omega) ?_ | dsimp only)
    exact W.ret rfl
  | true =>
  rw [hb] at hpos
  by_cases hpl : 2 < pl
  · have hlen := empty (mustL_none (.inr hpl))
    repeat (first | with_reducible refine wT ?_ | with_reducible refine wF ?_ | with_reducible refine wg1 rfl ?_ | with_reducible refine wpT ?_ | with_reducible refine wpF ?_ | with_reducible refine wnT ?_ | with_reducible refine wpv ?_ | with_reducible refine wsm ?_ | with_reducible refine wrB ?_ | with_reducible refine wx0 ?_ | with_reducible refine wx1 ?_ | with_reducible refine wx2 ?_ | with_reducible refine wx3 ?_ | with_reducible refine wbd (by assumption) ?_ | (with_reducible refine wbd (hpos _ (by assumption)) ?_) | (with_reducible refine wbd (hal _) ?_) | (with_reducible refine weqlT rfl ?_) | with_reducible refine wgtrT (by omega) ?_ | with_reducible refine wgtrF (by omega) ?_ | dsimp only)
    exact W.ret rfl
  obtain ⟨R, C, hS⟩ := sides_of hb
  obtain ⟨P, rfl⟩ := Int.eq_ofNat_of_zero_le (show 0 ≤ pl by omega)
  have hP : P = 1 ∨ P = 2 := by omega
  have hO : 3 - P = 1 ∨ 3 - P = 2 := by omega
  obtain ⟨rfl, rfl, s1, s2, s3, s4, s9, slen, sall⟩ := id hS
  have hplB : playerB (P : Int) = true := by unfold playerB; exact decide_eq_true (by omega)
  obtain ⟨M, hM⟩ : ∃ M, M = mustN (R : Int) (C : Int) xs (P : Int) := ⟨_, rfl⟩
  have hML : mustL (R : Int) (C : Int) xs (P : Int) = listN M := by
    unfold mustL; rw [hb, hplB, decide_eq_true (by omega : xs.count 0 ≤ 6), hM]; rfl
  have hM9 : M < 2 ^ 9 := by
    rw [hM]; unfold mustN
    exact Nat.lt_of_le_of_lt must_le (set_lt9 hS 0)
  have hb3 : h3.length ≤ h3.length := Nat.le_refl _
  have hq3 : Fix h3.length h3 q xs := hq.re k13 hb1
  have htF3 : ∀ hh, Keep h3.length h3 hh → TabOk g hh := fun hh kk => htF hh (k13.trans (kk.mono k13.1))
  have kk3 : Keep h3.length h3 h3 := Keep.refl _ _
  obtain ⟨qw, hw, ew, ow, kw⟩ := hWC n (by omega) (R : Int) (C : Int) (P : Int) (htF3 _ kk3) (hq3 _ kk3) (by omega) (by omega)
  have hwl := winCellsL_length (R : Int) (C : Int) xs (P : Int)
  obtain ⟨WL, hWL⟩ : ∃ WL, WL = winCellsL (R : Int) (C : Int) xs (P : Int) := ⟨_, rfl⟩
  rw [← hWL] at ow hwl
  have hmem : ∀ e ∈ WL, e ∈ listN M := fun e he => by
    rw [hWL] at he
    obtain ⟨K, rfl, hK⟩ := winCells_mem.1 he
    exact (listN_mem hM9 _).2 ⟨K, rfl, by rw [hM]; exact must_wins hb hP hK⟩
  rw [hML] at f2 hll
  have hlw := ow.int.len'
  have hlen2 := (f2 _ kw).len'
  repeat (first | with_reducible refine wF ?_ | with_reducible refine wg1 rfl ?_ | with_reducible refine wpF ?_ | with_reducible refine wnT ?_ | with_reducible refine wpv ?_ | with_reducible refine wsm ?_ | with_reducible refine wx0 ?_ | with_reducible refine wx1 ?_ | with_reducible refine wx2 ?_ | with_reducible refine wx3 ?_ | with_reducible refine wbd (by assumption) ?_ | (with_reducible refine wbd (hpos _ (by assumption)) ?_) | with_reducible refine wgtrF (by omega) ?_ | dsimp only)
  refine loopW (fun u s => ∃ (k : Nat), s = laws_FnMustCells.st0 (.int .i64 (R : Int)) (.int .i64 (C : Int)) q (.int .i64 (P : Int)) q2 qw (.int .i64 (k : Int)) hw ∧ k + u = WL.length) ?_ lf WL.length _ (by omega) ⟨0, rfl, by omega⟩
  rintro n1 u s ⟨k, rfl, hku⟩ next
  rw [laws_FnMustCells.body0_eq]
  unfold laws_FnMustCells.body0
  simp only [env_C, env_load, env_bin, env_un, env_indexAddr, env_len]
  cases u with
  | succ u =>
    have hk : k < WL.length := by omega
    obtain ⟨a, ea, la⟩ := ow.int.at' hk
    have hha := hasInt_N g lf n (by omega) WL[k] (f2 _ kw) (by omega) (by omega)
    rw [decide_eq_true (hmem _ (List.getElem_mem hk))] at hha
    repeat (first | with_reducible refine wT ?_ | with_reducible refine wF ?_ | with_reducible refine wnT ?_ | with_reducible refine wbd (by assumption) ?_ | with_reducible refine wadd1 (by omega) ?_ | with_reducible refine wlssT (by omega) ?_ | dsimp only)
    exact next _ _ (Nat.lt_succ_self u) ⟨k + 1, rfl, by omega⟩
  | zero =>
    have hasc : CL g lf n fn_laws_ascend [q2] hw = some (.bool true, hw) := ascend_calls g lf n (by omega) (f2 _ kw) (listN_sorted M) (by omega) (by omega)
    obtain ⟨h5, e5, k5⟩ := hJ n (by omega) (R : Int) (C : Int) (P : Int) (htF3 _ kw) (hq3 _ kw) (by omega) (by omega)
    have kw5 := kw.trans (k5.mono kw.1)
    obtain ⟨h6, e6, k6⟩ := hWi n (by omega) (R : Int) (C : Int) (P : Int) (htF3 _ kw5) (hq3 _ kw5) (by omega) (by omega)
    by_cases h0 : 0 < (listN M).length
    · repeat (first | with_reducible refine wF ?_ | with_reducible refine wg1 rfl ?_ | with_reducible refine wg0 rfl ?_ | with_reducible refine wpT ?_ | with_reducible refine wpv ?_ | with_reducible refine wsm ?_ | with_reducible refine wrB ?_ | with_reducible refine wbd (by assumption) ?_ | with_reducible refine wlssF (by omega) ?_ | with_reducible refine wgtrT (by omega) ?_ | with_reducible refine wsub (by omega) ?_ | rw [kLoop_exit] | rw [laws_FnMustCells.after0_se0_3_4_5_6_7_8_9_57] | dsimp only | simp only [env_C, env_g, env_lf, env_pick, env_alloc, env_box, env_build, env_buildSlice, env_load, env_store, env_ptr, env_bin, env_un, env_conv, env_make, env_slice, env_fieldAddr, env_field, env_indexAddr, env_index, env_extract, env_len, env_append, env_max, env_min, env_makeMap, env_lookup, env_update])
      exact W.ret rfl
    · have hM0 : M = 0 := by
        refine Nat.eq_of_testBit_eq fun j => ?_
        rw [Nat.zero_testBit]
        cases e : M.testBit j with
        | false => rfl
        | true =>
          have := (listN_mem hM9 (j : Int)).2 ⟨j, rfl, e⟩
          have := List.length_pos_of_mem this
          omega
      cases hj : joinsL (R : Int) (C : Int) xs (P : Int) with
      | true =>
        rw [hj] at e5
        repeat (first | with_reducible refine wF ?_ | with_reducible refine wg1 rfl ?_ | with_reducible refine wg0 rfl ?_ | with_reducible refine wpT ?_ | with_reducible refine wpF ?_ | with_reducible refine wpv ?_ | with_reducible refine wsm ?_ | with_reducible refine wrB ?_ | with_reducible refine wbd (by assumption) ?_ | with_reducible refine wlssF (by omega) ?_ | with_reducible refine wgtrF (by omega) ?_ | with_reducible refine wsub (by omega) ?_ | rw [kLoop_exit] | rw [laws_FnMustCells.after0_se0_3_4_5_6_7_8_9_57] | dsimp only | simp only [env_C, env_g, env_lf, env_pick, env_alloc, env_box, env_build, env_buildSlice, env_load, env_store, env_ptr, env_bin, env_un, env_conv, env_make, env_slice, env_fieldAddr, env_field, env_indexAddr, env_index, env_extract, env_len, env_append, env_max, env_min, env_makeMap, env_lookup, env_update])
        exact W.ret rfl
      | false =>
        rw [hj] at e5
        have hwn := must_none hb hP (by rw [← hM]; exact hM0) hj
        rw [hwn] at e6
        repeat (first | with_reducible refine wF ?_ | with_reducible refine wg1 rfl ?_ | with_reducible refine wpT ?_ | with_reducible refine wpF ?_ | with_reducible refine wpv ?_ | with_reducible refine wsm ?_ | with_reducible refine wrB ?_ | with_reducible refine wbd (by assumption) ?_ | with_reducible refine wlssF (by omega) ?_ | with_reducible refine wgtrF (by omega) ?_ | with_reducible refine weqlT (by omega) ?_ | with_reducible refine wsub (by omega) ?_ | rw [kLoop_exit] | rw [laws_FnMustCells.after0_se0_3_4_5_6_7_8_9_57] | dsimp only | simp only [env_C, env_g, env_lf, env_pick, env_alloc, env_box, env_build, env_buildSlice, env_load, env_store, env_ptr, env_bin, env_un, env_conv, env_make, env_slice, env_fieldAddr, env_field, env_indexAddr, env_index, env_extract, env_len, env_append, env_max, env_min, env_makeMap, env_lookup, env_update])
        exact W.ret rfl

theorem fnBridgesOf_calls (hBr : BridgesOk g lf) {p : PV} {ys : List Int} {h : PHeap} (N : Nat) (hN : 45 ≤ N) (ha : Arg h p ys) (hlf : 1000 < lf) (ht : TabOk g h) :
    ∃ h', CL g lf N fn_laws_FnBridgesOf [p] h = some (.bool true, h') := by
  obtain ⟨n, rfl⟩ : ∃ n, N = n + 1 := ⟨N - 1, by omega⟩
  apply W.yes
  rw [laws_FnBridgesOf.call_eq]
  unfold laws_FnBridgesOf.main
  simp only [env_C, env_lf, env_pick, env_bin, env_un, env_extract, env_len]
  have hlenp : lenP Tryd.prog 22 p = some (.int .i64 ys.length) := (ha.1 h (Keep.refl _ _)).len tyB
  by_cases hbig : (1048576 : Int) < (ys.length : Int)
  · repeat (first | with_reducible refine wT ?_ | with_reducible refine wrB ?_ | with_reducible refine wbd (by assumption) ?_ | with_reducible refine wgtrT (by omega) ?_)
    exact W.ret rfl
  obtain ⟨r, c, k, h1, e1, k1, hr1, hr2, hc1, hc2, hk1, hk2⟩ := drawBridgesOf_W g lf n (by omega) ha
  have htF := tabF ht k1
  have hb1 : h1.length ≤ h1.length := Nat.le_refl _
  have k0 : Keep h1.length h1 h1 := Keep.refl _ _
  have hal : ∀ h2, CL g lf n fn_laws_alive [] h2 = some (.bool true, h2) := fun h2 => alive_calls g lf n (by omega) h2
  obtain ⟨q2, h2, e2, o2, k2⟩ := hBr n (by omega) r c k (htF _ k0)
  obtain ⟨q3, h3, e3, o3, k3⟩ := specBridgesOf_calls g lf n (by omega) hlf h2 r c k
  have k13 := k2.trans (k3.mono k2.1)
  have hll := bridgesL_length r c k
  have e4 := sameInts_N g lf n (by omega) (o2.keep k3).int o3.int (by omega) (by omega)
  rw [decide_eq_true rfl] at e4
  have o2' := o2.keep k3
  have f2 : Fix h3.length h3 q2 (bridgesL r c k) := o2'.int.fix
  have hbo : ∀ h2, CL g lf n fn_spec_BoardOk [.int .i64 r, .int .i64 c] h2 = some (.bool (boardB r c), h2) := fun h2 => boardOk_spec g lf n (by omega) h2 r c
  cases hcb : cellB r c k with
  | false =>
    have hnil : bridgesL r c k = [] := by unfold bridgesL; rw [hcb]; rfl
    have hlen : lenP Tryd.prog 23 q2 = some (.int .i64 0) := by
      have := o2'.int.len'
      rw [hnil] at this; exact this
    unfold cellB at hcb
    cases hb : boardB r c with
    | false =>
      rw [hb] at hbo
      repeat (first | with_reducible refine wT ?_ | with_reducible refine wF ?_ | with_reducible refine wg1 rfl ?_ | with_reducible refine wg0 rfl ?_ | with_reducible refine wpT ?_ | with_reducible refine wnT ?_ | with_reducible refine wnF ?_ | with_reducible refine wsm ?_ | with_reducible refine wrB ?_ | with_reducible refine wx0 ?_ | with_reducible refine wx1 ?_ | with_reducible refine wx2 ?_ | with_reducible refine wbd (by assumption) ?_ | (with_reducible refine wbd (hal _) ?_) | (with_reducible refine wbd (hbo _) ?_) | (with_reducible refine weqlT rfl ?_) | with_reducible refine wgtrF (by omega) ?_ | dsimp only)
      exact W.ret rfl
    | true =>
      rw [hb] at hbo hcb
      rw [Bool.true_and] at hcb
      have hcb' := of_decide_eq_false hcb
      obtain ⟨M, hM⟩ : ∃ M, M = r * c := ⟨_, rfl⟩
      rw [← hM] at hcb'
      have hmul : -4611686018427387904 ≤ r * c ∧ r * c ≤ 4611686018427387904 := by have := mul_bound hr1 hr2 hc1 hc2; omega
      by_cases hk0 : k < 0
      · repeat (first | with_reducible refine wT ?_ | with_reducible refine wF ?_ | with_reducible refine wg1 rfl ?_ | with_reducible refine wg0 rfl ?_ | with_reducible refine wpT ?_ | with_reducible refine wpF ?_ | with_reducible refine wnT ?_ | with_reducible refine wpv ?_ | with_reducible refine wsm ?_ | with_reducible refine wrB ?_ | with_reducible refine wx0 ?_ | with_reducible refine wx1 ?_ | with_reducible refine wx2 ?_ | with_reducible refine wbd (by assumption) ?_ | (with_reducible refine wbd (hal _) ?_) | (with_reducible refine wbd (hbo _) ?_) | (with_reducible refine weqlT rfl ?_) | with_reducible refine wlssT (by omega) ?_ | with_reducible refine wgtrF (by omega) ?_ | dsimp only)
        exact W.ret rfl
      · repeat (first | with_reducible refine wT ?_ | with_reducible refine wF ?_ | with_reducible refine wg1 rfl ?_ | with_reducible refine wpT ?_ | with_reducible refine wpF ?_ | with_reducible refine wnT ?_ | with_reducible refine wpv ?_ | with_reducible refine wsm ?_ | with_reducible refine wrB ?_ | with_reducible refine wx0 ?_ | with_reducible refine wx1 ?_ | with_reducible refine wx2 ?_ | with_reducible refine wbd (by assumption) ?_ | (with_reducible refine wbd (hal _) ?_) | (with_reducible refine wbd (hbo _) ?_) | (with_reducible refine weqlT rfl ?_) | (with_reducible refine wmul hmul ?_) | (rw [← hM]) | with_reducible refine wlssF (by omega) ?_ | with_reducible refine wgtrF (by omega) ?_ | with_reducible refine wgeqT (by omega) ?_ | dsimp only)
        exact W.ret rfl
  | true =>
  obtain ⟨R, C, A, hCell⟩ := cell_of hcb
  obtain ⟨rfl, rfl, rfl, s1, s2, s3, s4, s9, hA⟩ := id hCell
  have hbB : boardB (R : Int) (C : Int) = true := by
    unfold cellB at hcb
    rw [Bool.and_eq_true] at hcb; exact hcb.1
  rw [hbB] at hbo
  have hBL : bridgesL (R : Int) (C : Int) (A : Int) = bridgesN R C A := by unfold bridgesL; rw [hcb]; rfl
  rw [hBL] at f2 hll
  have kk3 : Keep h3.length h3 h3 := Keep.refl _ _
  have htF3 : ∀ hh, Keep h3.length h3 hh → TabOk g hh := fun hh kk => htF hh (k13.trans (kk.mono k13.1))
  obtain ⟨qn, hn, en, on, kn⟩ := nearCells_calls g lf n (by omega) (by omega) (htF3 _ kk3).1 (R : Int) (C : Int) (A : Int)
  rw [nearL_cell hCell] at on
  have hnl := nearN_length R C A
  have hn3 := kn.1
  have fn : Fix hn.length hn qn (nearN R C A) := on.int.fix
  have f2n : Fix hn.length hn q2 (bridgesN R C A) := f2.re kn (Nat.le_refl _)
  have htFn : ∀ hh, Keep hn.length hn hh → TabOk g hh := fun hh kk => htF3 hh (kn.trans (kk.mono kn.1))
  have hRC : R * C ≤ 40 := by omega
  obtain ⟨BL, hBLd⟩ : ∃ BL, BL = bridgesN R C A := ⟨_, rfl⟩
  rw [← hBLd] at f2 f2n hll
  repeat (first | with_reducible refine wF ?_ | with_reducible refine wg1 rfl ?_ | with_reducible refine wpF ?_ | with_reducible refine wnT ?_ | with_reducible refine wpv ?_ | with_reducible refine wsm ?_ | with_reducible refine wx0 ?_ | with_reducible refine wx1 ?_ | with_reducible refine wx2 ?_ | with_reducible refine wbd (by assumption) ?_ | (with_reducible refine wbd (hbo _) ?_) | with_reducible refine wmulN (by omega) ?_ | with_reducible refine wlssF (by omega) ?_ | with_reducible refine wgtrF (by omega) ?_ | with_reducible refine wgeqF (by omega) ?_ | dsimp only)
  refine loopW (fun u s => ∃ (k : Nat) (h4 : PHeap), s = laws_FnBridgesOf.st0 (.int .i64 (R : Int)) (.int .i64 (C : Int)) (.int .i64 (A : Int)) q2 qn (.int .i64 (k : Int)) h4 ∧ k + u = BL.length ∧ Keep hn.length hn h4) ?_ lf BL.length _ (by omega) ⟨0, hn, rfl, by omega, Keep.refl _ _⟩
  rintro n1 u s ⟨k, h4, rfl, hku, k4⟩ next
  have hl4 := (f2n _ k4).len'
  rw [laws_FnBridgesOf.body0_eq]
  unfold laws_FnBridgesOf.body0
  simp only [env_C, env_lf, env_load, env_bin, env_indexAddr, env_len]
  cases u with
  | zero =>
    have hasc : CL g lf n fn_laws_ascend [q2] h4 = some (.bool true, h4) := ascend_calls g lf n (by omega) (f2n _ k4) (by rw [hBLd]; exact sorted_get (bridges_sorted R C A)) (by omega) (by omega)
    repeat (first | with_reducible refine wF ?_ | with_reducible refine wg1 rfl ?_ | with_reducible refine wpT ?_ | with_reducible refine wrB ?_ | with_reducible refine wbd (by assumption) ?_ | (with_reducible refine wbd (hal _) ?_) | with_reducible refine wlssF (by omega) ?_ | rw [kLoop_exit] | rw [laws_FnBridgesOf.after0_se0_3_4_5_6_7_8_60] | dsimp only | simp only [env_C, env_g, env_lf, env_pick, env_alloc, env_box, env_build, env_buildSlice, env_load, env_store, env_ptr, env_bin, env_un, env_conv, env_make, env_slice, env_fieldAddr, env_field, env_indexAddr, env_index, env_extract, env_len, env_append, env_max, env_min, env_makeMap, env_lookup, env_update])
    exact W.ret rfl
  | succ u =>
    have hk : k < BL.length := by omega
    obtain ⟨B, hB, hBl, hbr⟩ := bridges_mem.1 (show BL[k] ∈ bridgesN R C A by rw [← hBLd]; exact List.getElem_mem hk)
    obtain ⟨x1, x2, x3⟩ := bridge_ok s1 s2 s3 s4 s9 hA hBl hbr
    have hCellB : CellOf (R : Int) (C : Int) (B : Int) R C B := ⟨rfl, rfl, rfl, s1, s2, s3, s4, s9, hBl⟩
    have hcbB : cellB (R : Int) (C : Int) (B : Int) = true := by
      unfold cellB; rw [hbB, Bool.true_and]
      exact decide_eq_true (by have : (R : Int) * (C : Int) = ((R * C : Nat) : Int) := by rw [Int.natCast_mul]
                               omega)
    obtain ⟨a, ea, la⟩ := (f2n _ k4).at' hk
    rw [hB] at la
    obtain ⟨qo, ho, eo, oo, ko⟩ := nearCells_calls g lf n (by omega) (by omega) (htFn _ k4).1 (R : Int) (C : Int) (B : Int)
    rw [nearL_cell hCellB] at oo
    have k4o := k4.trans (ko.mono k4.1)
    obtain ⟨OL, hOL⟩ : ∃ OL, OL = nearN R C B := ⟨_, rfl⟩
    have hol : OL.length ≤ 6 := by rw [hOL]; exact nearN_length R C B
    rw [← hOL] at oo x2
    obtain ⟨NL, hNL⟩ : ∃ NL, NL = nearN R C A := ⟨_, rfl⟩
    rw [← hNL] at fn x2 x3 hnl
    have hlo := oo.int.len'
    repeat (first | with_reducible refine wT ?_ | with_reducible refine wbd (by assumption) ?_ | with_reducible refine wlssT (by omega) ?_ | dsimp only)
    refine loopW (fun m s => ∃ (j b : Nat), s = laws_FnBridgesOf.st1 (.int .i64 (R : Int)) (.int .i64 (C : Int)) (.int .i64 (A : Int)) q2 qn (.int .i64 (k : Int)) qo (.int .i64 (b : Int)) (.int .i64 (j : Int)) ho ∧ j + m = OL.length ∧ b ≤ j ∧ b + bothN NL (OL.drop j) = 2) ?_ lf OL.length _ (by omega) ⟨0, 0, rfl, by omega, Nat.le_refl _, by rw [List.drop_zero, Nat.zero_add]; exact x2⟩
    rintro n2 m s ⟨j, b, rfl, hjm, hbj, hbn⟩ next2
    rw [laws_FnBridgesOf.body1_eq]
    unfold laws_FnBridgesOf.body1
    simp only [env_C, env_load, env_bin, env_indexAddr, env_len]
    cases m with
    | succ m =>
      have hj : j < OL.length := by omega
      rw [both_succ hj] at hbn
      obtain ⟨a2, ea2, la2⟩ := oo.int.at' hj
      have hha := hasInt_N g lf n (by omega) OL[j] (fn _ k4o) (by omega) (by omega)
      by_cases hin : OL[j] ∈ NL
      · rw [decide_eq_true hin] at hha
        rw [if_pos hin] at hbn
        repeat (first | with_reducible refine wT ?_ | with_reducible refine wbd (by assumption) ?_ | with_reducible refine wadd1 (by omega) ?_ | with_reducible refine wlssT (by omega) ?_ | dsimp only)
        exact next2 _ _ (Nat.lt_succ_self m) ⟨j + 1, b + 1, rfl, by omega, by omega, by omega⟩
      · rw [decide_eq_false hin] at hha
        rw [if_neg hin] at hbn
        repeat (first | with_reducible refine wT ?_ | with_reducible refine wF ?_ | with_reducible refine wbd (by assumption) ?_ | with_reducible refine wadd1 (by omega) ?_ | with_reducible refine wlssT (by omega) ?_ | dsimp only)
        exact next2 _ _ (Nat.lt_succ_self m) ⟨j + 1, b, rfl, by omega, by omega, by omega⟩
    | zero =>
      have hb2 : b = 2 := by
        rw [List.drop_eq_nil_of_le (by omega)] at hbn
        exact hbn
      obtain ⟨a', ea', la'⟩ := (f2n _ k4o).at' hk
      have haa : a' = a := by rw [ea] at ea'; exact (Option.some.inj ea').symm
      subst haa
      rw [hB] at la'
      have hha := hasInt_N g lf n (by omega) (B : Int) (fn _ k4o) (by omega) (by omega)
      rw [decide_eq_false x3] at hha
      obtain ⟨qb, h5, e5, o5, k5⟩ := hBr n (by omega) (R : Int) (C : Int) (B : Int) (htFn _ k4o)
      have hBB : bridgesL (R : Int) (C : Int) (B : Int) = bridgesN R C B := by unfold bridgesL; rw [hcbB]; rfl
      rw [hBB] at o5
      have hbl := bridges_length (A := B) s9
      have hhb := hasInt_N g lf n (by omega) (A : Int) o5.int (by omega) (by omega)
      rw [decide_eq_true (bridges_mem.2 ⟨A, rfl, hA, x1⟩)] at hhb
      repeat (first | with_reducible refine wF ?_ | with_reducible refine wg1 rfl ?_ | with_reducible refine wpF ?_ | with_reducible refine wnT ?_ | with_reducible refine wpv ?_ | with_reducible refine wsm ?_ | with_reducible refine wbd (by assumption) ?_ | with_reducible refine wadd1 (by omega) ?_ | with_reducible refine wlssF (by omega) ?_ | with_reducible refine wneqF (by omega) ?_ | rw [kLoop_exit] | rw [laws_FnBridgesOf.after1_se2_3_4_5_6_7_8_9_10_11_73] | dsimp only | simp only [env_C, env_g, env_lf, env_pick, env_alloc, env_box, env_build, env_buildSlice, env_load, env_store, env_ptr, env_bin, env_un, env_conv, env_make, env_slice, env_fieldAddr, env_field, env_indexAddr, env_index, env_extract, env_len, env_append, env_max, env_min, env_makeMap, env_lookup, env_update])
      exact next _ _ (Nat.lt_succ_self u) ⟨k + 1, h5, rfl, by omega, k4o.trans (k5.mono k4o.1)⟩

end Go.Proofs.YtmhflbomploidaaDoor

/- The laws of chapter 6 over what the program's functions are asked to compute, continued. -/
set_option maxRecDepth 20000
namespace Go.Proofs.YtmhflbomploidaaDoor
open Go Go.Ip G

variable (g : Nat → PV) (lf n : Nat)

end Go.Proofs.YtmhflbomploidaaDoor

/- All sets of the cells of a set, in ascending order, by a carry that passes over the other cells. No program text. -/
set_option maxRecDepth 20000
namespace Go.Proofs.YtmhflbomploidaaDoor
open Go Go.Ip G

/-- All sets of the cells of a list, the first cell the fastest. -/
def partsN : List Nat → List Nat
  | [] => [0]
  | c :: l => (partsN l).flatMap fun x => [x, x ||| (1 <<< c)]
theorem partsN_length : ∀ l : List Nat, (partsN l).length = 2 ^ l.length
  | [] => rfl
  | c :: l => by
    rw [partsN, List.length_cons, Nat.pow_succ, ← partsN_length l]
    generalize partsN l = L
    induction L with
    | nil => rfl
    | cons x L ih => rw [List.flatMap_cons, List.length_append, ih, List.length_cons]; simp only [List.length_cons, List.length_nil]; omega

/-- What is computed: all cells outside of the set and those of p, one more, in the set. -/
def outI (F : Int) : Int := IntKind.i64.wrap ((BitVec.ofInt IntKind.i64.bits (if IntKind.i64.signed then -1 else IntKind.i64.max) ^^^ BitVec.ofInt IntKind.i64.bits F).toNat)
def orI (a b : Int) : Int := IntKind.i64.wrap ((BitVec.ofInt IntKind.i64.bits a ||| BitVec.ofInt IntKind.i64.bits b).toNat)
def andI (a b : Int) : Int := IntKind.i64.wrap ((BitVec.ofInt IntKind.i64.bits a &&& BitVec.ofInt IntKind.i64.bits b).toNat)
def nextI (F p : Int) : Int := andI (IntKind.i64.wrap (orI p (outI F) + 1)) F
def chainB (F : Nat) : Nat → List Nat → Bool
  | p, [] => p == F
  | p, q :: l => p != F && (nextI (F : Int) (p : Int) == (q : Int)) && chainB F q l
def chainsB (F : Nat) : Bool := match partsN (cellsN F) with
  | [] => false
  | p :: l => p == 0 && chainB F 0 l
theorem chains_all : ((List.range 32).all fun a => (List.range 16).all fun b => chainsB (a * 16 + b)) = true := by kernel_rfl
theorem chain_of {F : Nat} (hF : F < 2 ^ 9) : ∃ l, partsN (cellsN F) = 0 :: l ∧ chainB F 0 l = true := by
  have h := List.all_eq_true.1 (List.all_eq_true.1 chains_all (F / 16) (List.mem_range.2 (by omega))) (F % 16) (List.mem_range.2 (Nat.mod_lt _ (by decide)))
  rw [show F / 16 * 16 + F % 16 = F by omega] at h
  unfold chainsB at h
  split at h
  · cases h
  · rename_i p l e
    rw [Bool.and_eq_true, beq_iff_eq] at h
    obtain ⟨rfl, h⟩ := h
    exact ⟨l, e, h⟩
theorem partsN_le {x n : Nat} : ∀ {l : List Nat}, (∀ c ∈ l, c < n) → x ∈ partsN l → x < 2 ^ n
  | [], _, hx => by
    rw [partsN, List.mem_singleton] at hx
    rw [hx]; exact Nat.two_pow_pos n
  | c :: l, hl, hx => by
    rw [partsN, List.mem_flatMap] at hx
    obtain ⟨y, hy, hx⟩ := hx
    have h1 := partsN_le (fun d hd => hl d (List.mem_cons_of_mem _ hd)) hy
    have hc := hl c (List.mem_cons_self ..)
    simp only [List.mem_cons, List.not_mem_nil, or_false] at hx
    rcases hx with rfl | rfl
    · exact h1
    · refine Nat.or_lt_two_pow h1 ?_
      rw [Nat.one_shiftLeft]; exact Nat.pow_lt_pow_right (by decide) hc
end Go.Proofs.YtmhflbomploidaaDoor

/- Lists that are in order by a number: blocks, and what is merged; all sets of the cells of a set by their sizes. No program text. -/
set_option maxRecDepth 20000
namespace Go.Proofs.YtmhflbomploidaaDoor
open Go Go.Ip G

section
variable (kf cf : Int → Nat)
/-- In order, none twice. -/
def Srt (l : List Int) : Prop := l.Pairwise fun a b => kf a < kf b
/-- The coarse number tells of the two, the one from before and the one from behind, what the fine one tells. -/
def Cp (a b : Int) : Prop := kf a ≠ kf b ∧ (cf b < cf a ↔ kf b < kf a)
/-- In blocks of so many, each in order. -/
inductive Blk (bs : Nat) : List Int → List Int → Prop
  | last {l s : List Int} : l.length ≤ bs → s.Perm l → Srt kf s → Blk bs l s
  | more {a sa r ys : List Int} : a.length = bs → sa.Perm a → Srt kf sa → Blk bs r ys → Blk bs (a ++ r) (sa ++ ys)
end

section
variable {kf cf : Int → Nat}
theorem Srt.left {a b : List Int} (h : Srt kf (a ++ b)) : Srt kf a := (List.pairwise_append.1 h).1
theorem Srt.right {a b : List Int} (h : Srt kf (a ++ b)) : Srt kf b := (List.pairwise_append.1 h).2.1
theorem Srt.one (x : Int) : Srt kf [x] := List.pairwise_singleton _ _

theorem Blk.len {bs : Nat} {l s : List Int} (h : Blk kf bs l s) : s.length = l.length := by
  induction h with
  | last _ p _ => exact p.length_eq
  | more _ p _ _ ih => rw [List.length_append, List.length_append, p.length_eq, ih]
/-- The first block. -/
theorem Blk.first {bs : Nat} {l s : List Int} (h : Blk kf bs l s) (hl : bs ≤ l.length) : ∃ a sa r ys, l = a ++ r ∧ s = sa ++ ys ∧ a.length = bs ∧ sa.Perm a ∧ Srt kf sa ∧ Blk kf bs r ys := by
  cases h with
  | last hb p hs => exact ⟨l, s, [], [], (List.append_nil _).symm, (List.append_nil _).symm, by omega, p, hs, .last (Nat.zero_le _) (.refl _) .nil⟩
  | more ha p hs hr => exact ⟨_, _, _, _, rfl, rfl, ha, p, hs, hr⟩

theorem Cp.sub {a b a' b' : List Int} (h : ∀ x ∈ a, ∀ y ∈ b, Cp kf cf x y) (ha : ∀ x ∈ a', x ∈ a) (hb : ∀ x ∈ b', x ∈ b) : ∀ x ∈ a', ∀ y ∈ b', Cp kf cf x y := fun x hx y hy => h x (ha x hx) y (hb y hy)
end

/-! ### lists with a part exchanged -/
section
variable {α : Type}
end

/-! ### all sets of the cells of a set, by their sizes -/
theorem parts_all : ((List.range 32).all fun a => (List.range 16).all fun b => partsN (cellsN (a * 16 + b)) == (List.range (2 ^ (cellsN (a * 16 + b)).length)).map (fillN (cellsN (a * 16 + b)))) = true := by kernel_rfl
theorem parts_fill {F : Nat} (hF : F < 2 ^ 9) : partsN (cellsN F) = (List.range (2 ^ (cellsN F).length)).map (fillN (cellsN F)) := by
  have h := List.all_eq_true.1 (List.all_eq_true.1 parts_all (F / 16) (List.mem_range.2 (by omega))) (F % 16) (List.mem_range.2 (Nat.mod_lt _ (by decide)))
  rw [show F / 16 * 16 + F % 16 = F by omega] at h
  exact beq_iff_eq.1 h
end Go.Proofs.YtmhflbomploidaaDoor

/- The library's stable sort: what it is given, compared by a function of the program, comes in order, and none is lost. -/
set_option maxRecDepth 20000
namespace Go.Proofs.YtmhflbomploidaaDoor
open Go Go.Ip G

section
variable {Q : PV → PHeap → Prop}
theorem conv_iu (x : Int) : convP Tryd.prog 3 82 (.int .i64 x) = some (.int .u64 (IntKind.u64.wrap x)) := by kernel_rfl
end

variable (g : Nat → PV) (lf : Nat)

/-! ### parts that change places -/
end Go.Proofs.YtmhflbomploidaaDoor

/- The library's stable sort: insertion into a block, two blocks merged, and blocks of all sizes. -/
set_option maxRecDepth 20000
namespace Go.Proofs.YtmhflbomploidaaDoor
open Go Go.Ip G

section
variable {Q : PV → PHeap → Prop}
end
/-- A function that compares by a number, and changes nothing. -/
def CmpOk (g : Nat → PV) (lf : Nat) (f : FuncId) (ok : Int → Prop) (cf : Int → Nat) : Prop := ∀ N, 5 ≤ N → ∀ a b : Int, ok a → ok b → ∀ h, ∃ c : Int, CL g lf N f [.int .i64 a, .int .i64 b] h = some (.int .i64 c, h) ∧ (c < 0 ↔ cf a < cf b)

section
variable (g : Nat → PV) (lf : Nat) {f : FuncId} {ok : Int → Prop} {kf cf : Int → Nat} (hcmp : CmpOk g lf f ok cf) (hlf : 1000 < lf)
include hcmp hlf

end
end Go.Proofs.YtmhflbomploidaaDoor

/- The library's stable sort: two blocks merged. -/
set_option maxRecDepth 20000
namespace Go.Proofs.YtmhflbomploidaaDoor
open Go Go.Ip G

section
variable (g : Nat → PV) (lf : Nat) {f : FuncId} {ok : Int → Prop} {kf cf : Int → Nat} (hcmp : CmpOk g lf f ok cf) (hlf : 1000 < lf)
include hcmp hlf

end
end Go.Proofs.YtmhflbomploidaaDoor

/- The program's chapter 2: Joins, GapOf, GroupOf, Filled and GapCells compute what the model's do. -/
set_option maxRecDepth 20000
namespace Go.Proofs.YtmhflbomploidaaDoor
open Go Go.Ip G

variable (g : Nat → PV) (lf n : Nat)

theorem joinsOk (hlf : 1000 < lf) : JoinsOk g lf := by
  intro N hN r c pl xs p h ht hp hl hf
  obtain ⟨n, rfl⟩ : ∃ n, N = n + 1 := ⟨N - 1, by omega⟩
  have ht' : Tab g h := ht.1
  have hpos := positionOk_N g lf n (by omega) r c hp (by omega) hf
  have hplay := playerOk_W g lf n (by omega) h pl
  have : W (CL g lf (n + 1) fn_impl_Joins [.int .i64 r, .int .i64 c, p, .int .i64 pl] h) fun v h' => v = .bool (joinsL r c xs pl) ∧ Keep h.length h h' := by
    rw [impl_Joins.call_eq]
    unfold impl_Joins.main
    simp only [env_C, env_pick, env_bin, env_un, env_extract]
    unfold joinsL
    cases hb : posB r c xs with
    | false =>
      rw [hb] at hpos
      repeat (first | with_reducible refine wT ?_ | with_reducible refine wg0 rfl ?_ | with_reducible refine wpT ?_ | with_reducible refine wnF ?_ | with_reducible refine wsm ?_ | with_reducible refine wrB ?_ | with_reducible refine wbd (by assumption) ?_ | dsimp only)
      exact W.ret ⟨rfl, Keep.refl _ _⟩
    | true =>
      rw [hb] at hpos
      cases hpl : playerB pl with
      | false =>
        rw [hpl] at hplay
        repeat (first | with_reducible refine wT ?_ | with_reducible refine wg1 rfl ?_ | with_reducible refine wpF ?_ | with_reducible refine wnT ?_ | with_reducible refine wnF ?_ | with_reducible refine wpv ?_ | with_reducible refine wsm ?_ | with_reducible refine wrB ?_ | with_reducible refine wbd (by assumption) ?_ | dsimp only)
        exact W.ret ⟨rfl, Keep.refl _ _⟩
      | true =>
        rw [hpl] at hplay
        obtain ⟨R, C, hS⟩ := sides_of hb
        obtain ⟨P, rfl, hP⟩ := player_of hpl
        have hB := board_of_sides hS
        obtain ⟨rfl, rfl, _, _, _, _, h9, hlen, _⟩ := id hS
        have hst := set_lt9 hS (P : Int)
        have e1 := sidesOf_W g lf hB hP n (by omega) hlf h
        have e2 := setOf_W g lf (P : Int) hp (by omega) n (by omega) hlf
        have s1 := sideN_lt (P := P) (last := false) hB
        have s2 := sideN_lt (P := P) (last := true) hB
        have a1 : sideN R C P false &&& setL xs (P : Int) < 2 ^ 9 := Nat.and_lt_two_pow _ hst
        obtain ⟨h1, e3, k1⟩ := grown_W g lf hB a1 hst n (by omega) hlf ht'
        rw [grown_in] at e3
        have hgl := grow_lt (M := masksN R C) (fr := sideN R C P false) hst
        have hgl2 : growN (masksN R C) (setL xs (P : Int)) (sideN R C P false) &&& sideN R C P true < 2 ^ 9 := Nat.and_lt_two_pow _ s2
        repeat (first | with_reducible refine wF ?_ | with_reducible refine wg1 rfl ?_ | with_reducible refine wpF ?_ | with_reducible refine wnT ?_ | with_reducible refine wpv ?_ | with_reducible refine wsm ?_ | with_reducible refine wx0 ?_ | with_reducible refine wx1 ?_ | with_reducible refine wbd (by assumption) ?_ | with_reducible refine wand (by omega) (by omega) ?_ | dsimp only)
        show W _ fun v h' => v = .bool (true && true && joinsN R C P (setL xs (P : Int))) ∧ Keep h.length h h'
        unfold joinsN
        refine wneq (fun e => ?_) (fun e => ?_)
        · repeat (first | with_reducible refine wrB ?_)
          refine W.ret ⟨?_, k1⟩
          rw [decide_eq_false (by omega)]; rfl
        · repeat (first | with_reducible refine wrB ?_)
          refine W.ret ⟨?_, k1⟩
          rw [decide_eq_true (by omega)]; rfl
  obtain ⟨_, h', e, rfl, k⟩ := this
  exact ⟨h', e, k⟩

end Go.Proofs.YtmhflbomploidaaDoor

/- The least cell of a set, as the library finds it by its table of 64 bytes; and comparing a slice with nil, copying it. -/
set_option maxRecDepth 20000
namespace Go.Proofs.YtmhflbomploidaaDoor
open Go Go.Ip G

/-- The least number in a set of nine; nine if there is none. -/
def lowN (x : Nat) : Nat := ((List.range 9).find? fun k => x.testBit k).getD 9
def lsB (x : Nat) : Bool := x.testBit (lowN x) && decide (lowN x < 9) && (List.range (lowN x)).all (fun j => !x.testBit j) && (x &&& (x - 1) == without x (lowN x))
theorem ls_all : ((List.range 512).all fun x => x == 0 || lsB x) = true := by kernel_rfl
theorem low_ok {x : Nat} (hx : x < 2 ^ 9) (h0 : x ≠ 0) : x.testBit (lowN x) = true ∧ lowN x < 9 ∧ (∀ j, j < lowN x → x.testBit j = false) ∧ x &&& (x - 1) = without x (lowN x) := by
  have h := List.all_eq_true.1 ls_all x (List.mem_range.2 hx)
  have h1 : lsB x = true := by
    rcases Bool.or_eq_true_iff.1 h with h | h
    · exact absurd (by simpa using h) h0
    · exact h
  unfold lsB at h1
  simp only [Bool.and_eq_true, decide_eq_true_eq, beq_iff_eq] at h1
  obtain ⟨⟨⟨a, b⟩, c⟩, d⟩ := h1
  exact ⟨a, b, fun j hj => by have := List.all_eq_true.1 c j (List.mem_range.2 hj); simpa using this, d⟩

/-- What the library computes, step by step. -/
def isU (o : Option PV) (a : Nat) : Bool := match o with | some (.int .u64 (.ofNat b)) => b == a | _ => false
theorem isU_eq {o : Option PV} {a : Nat} (h : isU o a = true) : o = some (.int .u64 (a : Int)) := by
  unfold isU at h
  split at h
  · have := beq_iff_eq.1 h; subst this; rfl
  · cases h
def tz5 (x : Nat) : Nat := ((1 <<< lowN x) * 285870213051353865) % 2 ^ 64
def tz6 (x : Nat) : Nat := tz5 x / 2 ^ 58
noncomputable def tzB (x : Nat) : Bool := isU (unP .neg (.int .u64 (x : Int))) (2 ^ 64 - x) && (isU (binP Tryd.prog .and 92 (.int .u64 (x : Int)) (.int .u64 ((2 ^ 64 - x : Nat) : Int))) (1 <<< lowN x) &&
  (isU (binP Tryd.prog .mul 92 (.int .u64 ((1 <<< lowN x : Nat) : Int)) (.int .u64 285870213051353865)) (tz5 x) && (isU (binP Tryd.prog .shr 92 (.int .u64 (tz5 x : Int)) (.int .u64 58)) (tz6 x) && tab64N[tz6 x]? == some (lowN x))))
theorem tz_all : ((List.range 512).all fun x => x == 0 || tzB x) = true := by kernel_rfl
theorem tz_one {x : Nat} (hx : x < 2 ^ 9) (h0 : x ≠ 0) : tzB x = true := by
  have h := List.all_eq_true.1 tz_all x (List.mem_range.2 hx)
  rcases Bool.or_eq_true_iff.1 h with h | h
  · exact absurd (beq_iff_eq.1 h) h0
  · exact h
theorem tz_steps {x : Nat} (hx : x < 2 ^ 9) (h0 : x ≠ 0) : ∃ v3 v4 v5, ∃ i : Nat, unP .neg (.int .u64 (x : Int)) = some v3 ∧ binP Tryd.prog .and 92 (.int .u64 (x : Int)) v3 = some v4 ∧ binP Tryd.prog .mul 92 v4 (.int .u64 285870213051353865) = some v5 ∧
    binP Tryd.prog .shr 92 v5 (.int .u64 58) = some (.int .u64 (i : Int)) ∧ tab64N[i]? = some (lowN x) := by
  have h1 := tz_one hx h0
  unfold tzB at h1
  obtain ⟨a, h1⟩ := Bool.and_eq_true_iff.1 h1
  obtain ⟨b, h1⟩ := Bool.and_eq_true_iff.1 h1
  obtain ⟨c, h1⟩ := Bool.and_eq_true_iff.1 h1
  obtain ⟨d, h1⟩ := Bool.and_eq_true_iff.1 h1
  exact ⟨_, _, _, _, isU_eq a, isU_eq b, isU_eq c, isU_eq d, beq_iff_eq.1 h1⟩

theorem tyTzU : Tryd.prog.underlying 97 = some (.array 64 5) := by kernel_rfl
theorem tyTz1 : sizeT Tryd.prog 5 = some 1 := by kernel_rfl
theorem tyTzA : isAggT Tryd.prog 5 = some false := by kernel_rfl
theorem tzConv (l : Nat) (hl : l < 9) : convP Tryd.prog 5 3 (.int .u8 (l : Int)) = some (.int .i64 (l : Int)) := by
  have : convP Tryd.prog 5 3 (.int .u8 (l : Int)) = some (.int .i64 (IntKind.i64.wrap (l : Int))) := by kernel_rfl
  rw [this, wr (by omega)]
theorem tzConv2 (x : Nat) (hx : x < 2 ^ 9) : convP Tryd.prog 3 82 (.int .i64 (x : Int)) = some (.int .u64 (x : Int)) := by
  have : convP Tryd.prog 3 82 (.int .i64 (x : Int)) = some (.int .u64 (IntKind.u64.wrap (x : Int))) := by kernel_rfl
  rw [this]
  have : IntKind.u64.wrap (x : Int) = (x : Int) := by unfold IntKind.wrap; simp [IntKind.bits, IntKind.signed]; omega
  rw [this]

variable (g : Nat → PV) (lf n : Nat)

/-- The library's table is known to lie somewhere. -/
def Big (g : Nat → PV) : Prop := ∃ id, g 2 = .ptr id 0

theorem tz64_W {x : Nat} (hx : x < 2 ^ 9) (h0 : x ≠ 0) (hb : Big g) {h : PHeap} (ht : Tab64 g h) (N : Nat) (hN : 1 ≤ N) : CL g lf N fn_bits_TrailingZeros64 [.int .u64 (x : Int)] h = some (.int .i64 (lowN x : Int), h) := by
  obtain ⟨n, rfl⟩ : ∃ n, N = n + 1 := ⟨N - 1, by omega⟩
  obtain ⟨id, hg⟩ := hb
  have ho := ht id hg
  obtain ⟨v3, v4, v5, i, e3, e4, e5, e6, hi⟩ := tz_steps hx h0
  have hi64 : i < 64 := (List.getElem?_eq_some_iff.1 hi).1
  have e7 : indexAddrP Tryd.prog 97 (.ptr id 0) (.int .u64 (i : Int)) = some (.ptr id i) := by simp [indexAddrP, tyTzU, tyTz1]; omega
  have e8 : loadP Tryd.prog 5 (.ptr id i) h = some (.int .u8 (lowN x : Int)) := by
    simp [loadP, tyTzA, cellsAt, ho, PObj.get, tab64Cells, hi]
  have e9 := tzConv (lowN x) (low_ok hx h0).2.1
  have : W (CL g lf (n + 1) fn_bits_TrailingZeros64 [.int .u64 (x : Int)] h) fun v h' => v = .int .i64 (lowN x : Int) ∧ h' = h := by
    rw [bits_TrailingZeros64.call_eq]
    unfold bits_TrailingZeros64.main
    simp only [env_g, env_load, env_bin, env_un, env_conv, env_indexAddr]
    refine weqlF (by omega) ?_
    rw [hg]
    repeat (first | with_reducible refine wF ?_ | with_reducible refine wrI ?_ | with_reducible refine wbd (by assumption) ?_)
    exact W.ret ⟨rfl, rfl⟩
  obtain ⟨_, _, e, rfl, rfl⟩ := this
  exact e

theorem leastIn_W {x : Nat} (hx : x < 2 ^ 9) (h0 : x ≠ 0) (hb : Big g) {h : PHeap} (ht : Tab64 g h) (N : Nat) (hN : 3 ≤ N) : CL g lf N fn_impl_leastIn [.int .i64 (x : Int)] h = some (.int .i64 (lowN x : Int), h) := by
  obtain ⟨n, rfl⟩ : ∃ n, N = n + 1 := ⟨N - 1, by omega⟩
  obtain ⟨n, rfl⟩ : ∃ m, n = m + 1 := ⟨n - 1, by omega⟩
  have e1 := tzConv2 x hx
  have e2 := tz64_W g lf hx h0 hb ht n (by omega)
  have e3 : CL g lf (n + 1) fn_bits_TrailingZeros [.int .u64 (x : Int)] h = some (.int .i64 (lowN x : Int), h) := by
    have : W (CL g lf (n + 1) fn_bits_TrailingZeros [.int .u64 (x : Int)] h) fun v h' => v = .int .i64 (lowN x : Int) ∧ h' = h := by
      rw [bits_TrailingZeros.call_eq]
      unfold bits_TrailingZeros.main
      simp only [env_C, env_conv]
      repeat (first | with_reducible refine wF ?_ | with_reducible refine wrI ?_ | with_reducible refine wbd (by assumption) ?_ | dsimp only)
      exact W.ret ⟨rfl, rfl⟩
    obtain ⟨_, _, e, rfl, rfl⟩ := this
    exact e
  have : W (CL g lf (n + 1 + 1) fn_impl_leastIn [.int .i64 (x : Int)] h) fun v h' => v = .int .i64 (lowN x : Int) ∧ h' = h := by
    rw [impl_leastIn.call_eq]
    unfold impl_leastIn.main
    simp only [env_C, env_conv]
    repeat (first | with_reducible refine wrI ?_ | with_reducible refine wbd (by assumption) ?_ | dsimp only)
    exact W.ret ⟨rfl, rfl⟩
  obtain ⟨_, _, e, rfl, rfl⟩ := this
  exact e

/-- What a set loses with its least cell. -/
theorem f_drop {x : Nat} (hx : x < 2 ^ 9) (h0 : x ≠ 0) : binP Tryd.prog .sub 3 (.int .i64 (x : Int)) (.int .i64 1) = some (.int .i64 ((x - 1 : Nat) : Int)) ∧ binP Tryd.prog .and 3 (.int .i64 (x : Int)) (.int .i64 ((x - 1 : Nat) : Int)) = some (.int .i64 (without x (lowN x) : Int)) := by
  refine ⟨by rw [bin_sub, wr (by omega), show (x : Int) - 1 = ((x - 1 : Nat) : Int) by omega], ?_⟩
  rw [f_and (by omega) (by omega), (low_ok hx h0).2.2.2]
theorem without_lt9 {x k : Nat} (hx : x < 2 ^ 9) : without x k < 2 ^ 9 := by rw [← minusN_one]; exact minusN_lt hx
theorem without_less {x : Nat} (hx : x < 2 ^ 9) (h0 : x ≠ 0) : without x (lowN x) < x := by
  have h := (low_ok hx h0).2.2.2
  rw [← h]
  have : x &&& (x - 1) ≤ x - 1 := Nat.and_le_right
  omega

/-! ### slices.Clone -/
end Go.Proofs.YtmhflbomploidaaDoor

/- The program's search: structs and a map on the interpreter's heap; the sets' joining; what stands after a move. -/
set_option maxRecDepth 20000
namespace Go.Proofs.YtmhflbomploidaaDoor
open Go Go.Ip G

/-! ### objects by themselves, and what keeps all but one -/
def At (h : PHeap) (id : Nat) (l : List PV) : Prop := h[id]? = some (.own 1 l)
theorem At.lt {h : PHeap} {id : Nat} {l : List PV} (a : At h id l) : id < h.length := (List.getElem?_eq_some_iff.1 a).1
/-- All is as it was but the object m, and what is behind. -/
def KB (m : Nat) (h h' : PHeap) : Prop := h.length ≤ h'.length ∧ ∀ i, i < h.length → i ≠ m → h'[i]? = h[i]?
theorem KB.refl (m : Nat) (h : PHeap) : KB m h h := ⟨Nat.le_refl _, fun _ _ _ => rfl⟩
theorem KB.trans {m : Nat} {a b c : PHeap} (h : KB m a b) (k : KB m b c) : KB m a c := ⟨Nat.le_trans h.1 k.1, fun i hi hn => (k.2 i (Nat.lt_of_lt_of_le hi h.1) hn).trans (h.2 i hi hn)⟩
theorem Keep.kb {m : Nat} {a b : PHeap} (h : Keep a.length a b) : KB m a b := ⟨h.1, fun i hi _ => h.2 i hi⟩
theorem KB.keep {m n : Nat} {a b : PHeap} (h : KB m a b) (hm : n ≤ m) (hn : n ≤ a.length) : Keep n a b := ⟨h.1, fun i hi => h.2 i (Nat.lt_of_lt_of_le hi hn) (by omega)⟩
theorem At.keep {h h' : PHeap} {id : Nat} {l : List PV} (a : At h id l) (k : Keep h.length h h') : At h' id l := by unfold At; rw [k.2 id a.lt]; exact a
theorem At.kb {h h' : PHeap} {id m : Nat} {l : List PV} (a : At h id l) (k : KB m h h') (hn : id ≠ m) : At h' id l := by unfold At; rw [k.2 id a.lt hn]; exact a
def MapAt (h : PHeap) (m : Nat) (es : List (PV × PV)) : Prop := h[m]? = some (.mp es)
theorem MapAt.lt {h : PHeap} {m : Nat} {es : List (PV × PV)} (a : MapAt h m es) : m < h.length := (List.getElem?_eq_some_iff.1 a).1
theorem MapAt.keep {h h' : PHeap} {m : Nat} {es : List (PV × PV)} (a : MapAt h m es) (k : Keep h.length h h') : MapAt h' m es := by unfold MapAt; rw [k.2 m a.lt]; exact a
theorem MapAt.kb {h h' : PHeap} {id m : Nat} {es : List (PV × PV)} (a : MapAt h m es) (k : KB id h h') (hn : m ≠ id) : MapAt h' m es := by unfold MapAt; rw [k.2 m a.lt hn]; exact a
theorem At.ne {h : PHeap} {id m : Nat} {l : List PV} {es : List (PV × PV)} (a : At h id l) (b : MapAt h m es) : id ≠ m := by
  intro e; subst e; unfold At at a; unfold MapAt at b; rw [a] at b; cases b
theorem Fix.kb {b m : Nat} {h h' : PHeap} {p : PV} {xs : List Int} (s : Fix b h p xs) (k : KB m h h') (hb : b ≤ m) (hb2 : b ≤ h.length) : Fix b h' p xs := s.keep (k.keep hb hb2)

section
variable {Q : PV → PHeap → Prop} {h : PHeap}
/-- A new object. -/
theorem wnew {l : List PV} {x : Res} {f : PV × PHeap → Res} (hx : x = some (.ptr h.length 0, h ++ [.own 1 l])) (hf : ∀ h' id, At h' id l → Keep h.length h h' → h.length ≤ id → W (f (.ptr id 0, h')) Q) : W (x.bind f) Q := by
  rw [hx]
  exact hf _ _ (by unfold At; simp) (Keep.append _ _ _ (Nat.le_refl _)) (Nat.le_refl _)
/-- An object is written to. -/
theorem put_at {id : Nat} {l l' : List PV} (a : At h id l) : At (h.set id (.own 1 l')) id l' ∧ KB id h (h.set id (.own 1 l')) := by
  refine ⟨by unfold At; rw [List.getElem?_set_self a.lt], by simp, fun i _ hn => List.getElem?_set_ne (by omega)⟩
end

/-! ### types -/
theorem tyStA : isAggT Tryd.prog 58 = some true := by kernel_rfl
theorem tySt4 : sizeT Tryd.prog 58 = some 4 := by kernel_rfl
theorem tyStZ : zeroCellsT Tryd.prog 58 = some [.int .i64 0, .int .i64 0, .int .i64 0, .int .i64 0] := by kernel_rfl
theorem tyA3 : Tryd.prog.underlying 56 = some (.array 3 3) := by kernel_rfl
theorem tyA9 : Tryd.prog.underlying 75 = some (.array 9 3) := by kernel_rfl
theorem tyMp : Tryd.prog.underlying 74 = some (.map 58 3) := by kernel_rfl
theorem tyMpA : isAggT Tryd.prog 74 = some false := by kernel_rfl
theorem fSt0 (id : Nat) : fieldAddrP Tryd.prog 58 (.ptr id 0) 0 = some (.ptr id 0) := by kernel_rfl
theorem fSt1 (id : Nat) : fieldAddrP Tryd.prog 58 (.ptr id 0) 1 = some (.ptr id 3) := by kernel_rfl
theorem fs0 (id : Nat) : fieldAddrP Tryd.prog 77 (.ptr id 0) 0 = some (.ptr id 0) := by kernel_rfl
theorem fs1 (id : Nat) : fieldAddrP Tryd.prog 77 (.ptr id 0) 1 = some (.ptr id 9) := by kernel_rfl
theorem fs2 (id : Nat) : fieldAddrP Tryd.prog 77 (.ptr id 0) 2 = some (.ptr id 12) := by kernel_rfl
theorem fs3 (id : Nat) : fieldAddrP Tryd.prog 77 (.ptr id 0) 3 = some (.ptr id 15) := by kernel_rfl
theorem ia3 (id o i : Nat) (hi : i < 3) : indexAddrP Tryd.prog 56 (.ptr id o) (.int .i64 (i : Int)) = some (.ptr id (o + i)) := by simp [indexAddrP, tyA3, tySize]; omega
theorem ia9 (id o i : Nat) (hi : i < 9) : indexAddrP Tryd.prog 75 (.ptr id o) (.int .i64 (i : Int)) = some (.ptr id (o + i)) := by simp [indexAddrP, tyA9, tySize]; omega
theorem ld1 {h : PHeap} {id i : Nat} {l : List PV} {v : PV} (a : At h id l) (hv : l[i]? = some v) : loadP Tryd.prog 3 (.ptr id i) h = some v := by
  simp [loadP, tyAgg, cellsAt, show h[id]? = some (.own 1 l) from a, PObj.get, hv]
theorem ldM {h : PHeap} {id i : Nat} {l : List PV} {v : PV} (a : At h id l) (hv : l[i]? = some v) : loadP Tryd.prog 74 (.ptr id i) h = some v := by
  simp [loadP, tyMpA, cellsAt, show h[id]? = some (.own 1 l) from a, PObj.get, hv]
theorem st1 {h : PHeap} {id i : Nat} {l : List PV} {x : Int} (a : At h id l) (hi : i < l.length) : storeP Tryd.prog 3 (.ptr id i) (.int .i64 x) h = some (h.set id (.own 1 (l.set i (.int .i64 x)))) := by
  simp [storeP, show h[id]? = some (.own 1 l) from a, PV.cells, tySize, setCells]; omega

/-! ### what stands -/
def stC (f a b t : Nat) : List PV := [.int .i64 (f : Int), .int .i64 (a : Int), .int .i64 (b : Int), .int .i64 (t : Int)]
def stP (f a b t : Nat) : PV := .agg (stC f a b t)
theorem ldS {h : PHeap} {id f a b t : Nat} (o : At h id (stC f a b t)) : loadP Tryd.prog 58 (.ptr id 0) h = some (stP f a b t) := by
  simp [loadP, tyStA, tySt4, cellsAt, show h[id]? = some (.own 1 (stC f a b t)) from o, PObj.get, stC, stP]
theorem boxS (h : PHeap) (f a b t : Nat) : boxP (stP f a b t) h = some (.ptr h.length 0, h ++ [.own 1 (stC f a b t)]) := by simp [boxP, stP, stC, PV.cells, PV.oneCell]
theorem alS (h : PHeap) : allocP Tryd.prog 58 h = some (.ptr h.length 0, h ++ [.own 1 (stC 0 0 0 0)]) := by simp [allocP, tyStZ, stC]
theorem stS {h : PHeap} {id f a b t f' a' b' t' : Nat} (o : At h id (stC f' a' b' t')) : storeP Tryd.prog 58 (.ptr id 0) (stP f a b t) h = some (h.set id (.own 1 (stC f a b t))) := by
  simp [storeP, show h[id]? = some (.own 1 (stC f' a' b' t')) from o, stP, stC, PV.cells, PV.oneCell, tySt4, setCells]
theorem plainS {f a b t : Nat} : plainEq (stP f a b t) (stP f a b t) = true := plain_agg4

section
variable {Q : PV → PHeap → Prop} {h : PHeap} {id f a b t : Nat}
theorem wboxS {F : PV × PHeap → Res} (hf : ∀ h' id, At h' id (stC f a b t) → Keep h.length h h' → h.length ≤ id → W (F (.ptr id 0, h')) Q) : W ((boxP (stP f a b t) h).bind F) Q := wnew (boxS h f a b t) hf
theorem walS {F : PV × PHeap → Res} (hf : ∀ h' id, At h' id (stC 0 0 0 0) → Keep h.length h h' → h.length ≤ id → W (F (.ptr id 0, h')) Q) : W ((allocP Tryd.prog 58 h).bind F) Q := wnew (alS h) hf
theorem wstS {f' a' b' t' : Nat} (o : At h id (stC f' a' b' t')) {F : PHeap → Res} (hf : ∀ h', At h' id (stC f a b t) → KB id h h' → W (F h') Q) : W ((storeP Tryd.prog 58 (.ptr id 0) (stP f a b t) h).bind F) Q := by
  rw [stS o]; exact hf _ (put_at o).1 (put_at o).2
theorem wst1 {i : Nat} {l : List PV} {x : Int} (o : At h id l) (hi : i < l.length) {F : PHeap → Res} (hf : ∀ h', At h' id (l.set i (.int .i64 x)) → KB id h h' → W (F h') Q) : W ((storeP Tryd.prog 3 (.ptr id i) (.int .i64 x) h).bind F) Q := by
  rw [st1 o hi]; exact hf _ (put_at o).1 (put_at o).2
theorem wia3 {o i : Nat} (hi : i < 3) {F : PV → Res} (hf : W (F (.ptr id (o + i))) Q) : W ((indexAddrP Tryd.prog 56 (.ptr id o) (.int .i64 (i : Int))).bind F) Q := wbd (ia3 id o i hi) hf
theorem wia9 {o i : Nat} (hi : i < 9) {F : PV → Res} (hf : W (F (.ptr id (o + i))) Q) : W ((indexAddrP Tryd.prog 75 (.ptr id o) (.int .i64 (i : Int))).bind F) Q := wbd (ia9 id o i hi) hf
end

variable (g : Nat → PV) (lf n : Nat)

theorem exchanged_W (N : Nat) (hN : 1 ≤ N) (h : PHeap) {T : Nat} (hT : T = 1 ∨ T = 2) : CL g lf N fn_impl_exchanged [.int .i64 (T : Int)] h = some (.int .i64 ((3 - T : Nat) : Int), h) := by
  obtain ⟨n, rfl⟩ : ∃ n, N = n + 1 := ⟨N - 1, by omega⟩
  have : W (CL g lf (n + 1) fn_impl_exchanged [.int .i64 (T : Int)] h) fun v h' => v = .int .i64 ((3 - T : Nat) : Int) ∧ h' = h := by
    rw [impl_exchanged.call_eq]
    unfold impl_exchanged.main
    simp only [env_bin]
    rcases hT with rfl | rfl
    · repeat (first | with_reducible refine wT ?_ | with_reducible refine wrI ?_ | with_reducible refine weqlT (by omega) ?_)
      exact W.ret ⟨rfl, rfl⟩
    · repeat (first | with_reducible refine wT ?_ | with_reducible refine wF ?_ | with_reducible refine wrI ?_ | with_reducible refine weqlT (by omega) ?_ | with_reducible refine weqlF (by omega) ?_)
      exact W.ret ⟨rfl, rfl⟩
  obtain ⟨_, _, e, rfl, rfl⟩ := this
  exact e

theorem Keep.kbs {n m : Nat} {a b c : PHeap} (k : Keep n a b) (hn : n ≤ a.length) (k' : KB m b c) (hm : n ≤ m) : Keep n a c := k.trans (k'.keep hm (Nat.le_trans hn k.1))
theorem wia30 {Q : PV → PHeap → Prop} {id o : Nat} {F : PV → Res} (hf : W (F (.ptr id (o + 0))) Q) : W ((indexAddrP Tryd.prog 56 (.ptr id o) (.int .i64 0)).bind F) Q := wbd (ia3 id o 0 (by decide)) hf

theorem after_W {f a b t k : Nat} (hf : f < 2 ^ 9) (ha : a < 2 ^ 9) (hb : b < 2 ^ 9) (hk : k < 9) (ht : t = 1 ∨ t = 2) (N : Nat) (hN : 2 ≤ N) (h : PHeap) :
    W (CL g lf N fn_impl_standing_after [stP f a b t, .int .i64 (k : Int)] h) fun v h' => v = stP (without f k) (putA t k a) (putB t k b) (3 - t) ∧ Keep h.length h h' := by
  obtain ⟨n, rfl⟩ : ∃ n, N = n + 1 := ⟨N - 1, by omega⟩
  have hsl := shl_lt hk
  have e1 : ∀ h, CL g lf n fn_impl_exchanged [.int .i64 (t : Int)] h = some (.int .i64 ((3 - t : Nat) : Int), h) := fun h => exchanged_W g lf n (by omega) h ht
  rw [impl_standing_after.call_eq]
  unfold impl_standing_after.main
  simp only [env_C, env_alloc, env_box, env_load, env_store, env_bin, env_fieldAddr, env_indexAddr]
  refine wboxS fun h1 id o1 k1 l1 => ?_
  dsimp only
  refine walS fun h2 id2 o2 k2 l2 => ?_
  have o1' := o1.keep k2
  have hne : id2 ≠ id := by have := o1.lt; omega
  have kk2 : Keep h.length h h2 := k1.trans (k2.mono k1.1)
  repeat (first | (with_reducible refine wbd (fSt0 _) ?_) | (with_reducible refine wia30 ?_) | (with_reducible refine wbd (ld1 (by assumption) rfl) ?_) | with_reducible refine wshl (by omega) ?_ | with_reducible refine wandNot (by omega) (by omega) ?_ | dsimp only)
  refine wst1 o1' (show 0 + 0 < 4 by decide) fun h3 o3 k3 => ?_
  have o3 : At h3 id (stC (without f k) a b t) := o3
  have o23 := o2.kb k3 hne
  rcases ht with rfl | rfl
  · repeat (first | (with_reducible refine wbd (fSt0 _) ?_) | (with_reducible refine wbd (fSt1 _) ?_) | (with_reducible refine wia3 (by omega) ?_) | (with_reducible refine wbd (ld1 (by assumption) rfl) ?_) | with_reducible refine wshl (by omega) ?_ | with_reducible refine wor (by omega) (by omega) ?_)
    refine wst1 o3 (show 0 + 1 < 4 by decide) fun h4 o4 k4 => ?_
    have o4 : At h4 id (stC (without f k) (a ||| 1 <<< k) b 1) := o4
    have o24 := o23.kb k4 hne
    have e2 := e1 h4
    repeat (first | with_reducible refine wbd (by assumption) ?_ | (with_reducible refine wbd (fSt1 _) ?_) | (with_reducible refine wbd (ld1 (by assumption) rfl) ?_) | dsimp only)
    refine wst1 o4 (show 3 < 4 by decide) fun h5 o5 k5 => ?_
    have o5 : At h5 id (stC (without f k) (a ||| 1 <<< k) b (3 - 1)) := o5
    have o25 := o24.kb k5 hne
    repeat (first | (with_reducible refine wbd (ldS (by assumption)) ?_))
    refine wstS o25 fun h6 o6 k6 => ?_
    repeat (first | (with_reducible refine wbd (ldS (by assumption)) ?_))
    exact W.ret ⟨rfl, (((kk2.kbs (Nat.le_refl _) k3 l1).kbs (Nat.le_refl _) k4 l1).kbs (Nat.le_refl _) k5 l1).kbs (Nat.le_refl _) k6 (Nat.le_trans k1.1 l2)⟩
  · repeat (first | (with_reducible refine wbd (fSt0 _) ?_) | (with_reducible refine wbd (fSt1 _) ?_) | (with_reducible refine wia3 (by omega) ?_) | (with_reducible refine wbd (ld1 (by assumption) rfl) ?_) | with_reducible refine wshl (by omega) ?_ | with_reducible refine wor (by omega) (by omega) ?_)
    refine wst1 o3 (show 0 + 2 < 4 by decide) fun h4 o4 k4 => ?_
    have o4 : At h4 id (stC (without f k) a (b ||| 1 <<< k) 2) := o4
    have o24 := o23.kb k4 hne
    have e2 := e1 h4
    repeat (first | with_reducible refine wbd (by assumption) ?_ | (with_reducible refine wbd (fSt1 _) ?_) | (with_reducible refine wbd (ld1 (by assumption) rfl) ?_) | dsimp only)
    refine wst1 o4 (show 3 < 4 by decide) fun h5 o5 k5 => ?_
    have o5 : At h5 id (stC (without f k) a (b ||| 1 <<< k) (3 - 2)) := o5
    have o25 := o24.kb k5 hne
    repeat (first | (with_reducible refine wbd (ldS (by assumption)) ?_))
    refine wstS o25 fun h6 o6 k6 => ?_
    repeat (first | (with_reducible refine wbd (ldS (by assumption)) ?_))
    exact W.ret ⟨rfl, (((kk2.kbs (Nat.le_refl _) k3 l1).kbs (Nat.le_refl _) k4 l1).kbs (Nat.le_refl _) k5 l1).kbs (Nat.le_refl _) k6 (Nat.le_trans k1.1 l2)⟩

/-! ### a board's search -/
def nearV (R C j : Nat) : Nat := if j < R * C then wideN R C (1 <<< j) else 0
def srchV (R C : Nat) : List Nat := (List.range 9).map (nearV R C) ++ [0, sideN R C 1 false, sideN R C 2 false, 0, sideN R C 1 true, sideN R C 2 true]
def srchC (R C m : Nat) : List PV := (srchV R C).map (fun x : Nat => .int .i64 (x : Int)) ++ [.mapv m]
theorem srch_near (R C m k : Nat) (hk : k < 9) : (srchC R C m)[0 + k]? = some (.int .i64 (nearV R C k : Int)) := by
  rw [Nat.zero_add]
  unfold srchC srchV
  rw [List.map_append, List.append_assoc, List.getElem?_append_left (by simp; omega)]
  simp [hk]
theorem srch_first (R C m : Nat) {P : Nat} (hP : P = 1 ∨ P = 2) : (srchC R C m)[9 + P]? = some (.int .i64 (sideN R C P false : Int)) := by
  rcases hP with rfl | rfl <;> rfl
theorem srch_last (R C m : Nat) {P : Nat} (hP : P = 1 ∨ P = 2) : (srchC R C m)[12 + P]? = some (.int .i64 (sideN R C P true : Int)) := by
  rcases hP with rfl | rfl <;> rfl
theorem srch_map (R C m : Nat) : (srchC R C m)[15]? = some (.mapv m) := rfl

theorem nearV_lt {R C j : Nat} (hB : BoardOf R C) (hj : j < 9) : nearV R C j < 2 ^ 9 := by
  unfold nearV; split
  · exact wide_lt hB (shl_lt hj)
  · decide
theorem nearV_bit {R C k j : Nat} (hB : BoardOf R C) (hk : k < R * C) : (nearV R C k).testBit j = true ↔ j = k ∨ Adj (masksN R C) k j := by
  unfold nearV
  rw [if_pos hk, wide_bit hB, one_bit]
  constructor
  · rintro (h | ⟨i, h1, h2⟩)
    · exact .inl (by simpa using h)
    · rw [one_bit] at h1
      have : i = k := by simpa using h1
      exact .inr (this ▸ h2)
  · rintro (h | h)
    · exact .inl (by simpa using h)
    · exact .inr ⟨k, by rw [one_bit]; simp, h⟩
theorem bit_lt {x n j : Nat} (hx : x < 2 ^ n) (hj : x.testBit j = true) : j < n := by
  apply Classical.byContradiction
  intro hn
  rw [Nat.testBit_lt_two_pow (Nat.lt_of_lt_of_le hx (Nat.pow_le_pow_right (by decide) (by omega)))] at hj; cases hj

theorem joins_W {R C P own : Nat} (hB : BoardOf R C) (hP : P = 1 ∨ P = 2) (hown : own < 2 ^ (R * C)) (hbig : Big g) {h : PHeap} {s m : Nat} (hs : At h s (srchC R C m)) (ht : Tab64 g h) (N : Nat) (hN : 4 ≤ N) (hlf : 1000 < lf) :
    CL g lf N fn_impl_search_joins [.ptr s 0, .int .i64 (own : Int), .int .i64 (P : Int)] h = some (.bool (joinsN R C P own), h) := by
  obtain ⟨n, rfl⟩ : ∃ n, N = n + 1 := ⟨N - 1, by omega⟩
  have h9 := hB.2.2.2.2
  have hown9 : own < 2 ^ 9 := Nat.lt_of_lt_of_le hown (Nat.pow_le_pow_right (by decide) h9)
  have hP3 : P < 3 := by omega
  have s1 := sideN_lt (P := P) (last := false) hB
  have s2 := sideN_lt (P := P) (last := true) hB
  have hS9 : own &&& sideN R C P false < 2 ^ 9 := Nat.and_lt_two_pow _ s1
  have : W (CL g lf (n + 1) fn_impl_search_joins [.ptr s 0, .int .i64 (own : Int), .int .i64 (P : Int)] h) fun v h' => v = .bool (joinsN R C P own) ∧ h' = h := by
    rw [impl_search_joins.call_eq]
    unfold impl_search_joins.main
    simp only [env_lf, env_load, env_ptr, env_bin, env_fieldAddr, env_indexAddr]
    repeat (first | with_reducible refine wptr ?_ | (with_reducible refine wbd (fs1 _) ?_) | (with_reducible refine wia3 (by omega) ?_) | (with_reducible refine wbd (ld1 (by assumption) (srch_first _ _ _ hP)) ?_) | with_reducible refine wand (by omega) (by omega) ?_)
    obtain ⟨S, hS⟩ : ∃ S, S = own &&& sideN R C P false := ⟨_, rfl⟩
    rw [← hS] at hS9 ⊢
    have hSo : ∀ j, S.testBit j = true → own.testBit j = true := fun j hj => by
      rw [hS, Nat.testBit_and, Bool.and_eq_true] at hj; exact hj.1
    refine loopW (fun m' st => ∃ X w : Nat, st = impl_search_joins.st0 (.ptr s 0) (.int .i64 (own : Int)) (.int .i64 (P : Int)) (.int .i64 (X : Int)) (.int .i64 (w : Int)) h ∧ X < 2 ^ 9 ∧ (∀ j, w.testBit j = true → X.testBit j = true) ∧ (∀ j, X.testBit j = true → own.testBit j = true) ∧
      (∀ j, S.testBit j = true → X.testBit j = true) ∧ (∀ j, X.testBit j = true → Reach (masksN R C) (S ||| own) S j) ∧ (∀ k j, X.testBit k = true → w.testBit k = false → Adj (masksN R C) k j → own.testBit j = true → X.testBit j = true) ∧ m' = (512 - X) + (if w = 0 then 0 else 1)) ?_ lf (512 - S + (if S = 0 then 0 else 1)) _ (by split <;> omega)
      ⟨S, S, rfl, hS9, fun _ h => h, hSo, fun _ h => h, fun j hj => .start hj (by rw [Nat.testBit_or, hj]; rfl), fun k j h1 h2 _ _ => (by rw [h1] at h2; cases h2), rfl⟩
    rintro n1 m1 st ⟨X, w, rfl, hX, hw, hXo, hSX, hXr, hc, hm⟩ next
    rw [impl_search_joins.body0_eq]
    unfold impl_search_joins.body0
    simp only [env_lf, env_bin]
    by_cases e : w = 0
    · subst e
      repeat (first | with_reducible refine wF ?_ | with_reducible refine wptr ?_ | (with_reducible refine wbd (fs2 _) ?_) | (with_reducible refine wia3 (by omega) ?_) | (with_reducible refine wbd (ld1 (by assumption) (srch_last _ _ _ hP)) ?_) | with_reducible refine wand (by omega) (by omega) ?_ | with_reducible refine wneqF (by omega) ?_ | rw [kLoop_exit] | rw [impl_search_joins.after0_se0_0_1_2_7_8_21] | simp only [env_C, env_g, env_lf, env_pick, env_alloc, env_box, env_build, env_buildSlice, env_load, env_store, env_ptr, env_bin, env_un, env_conv, env_make, env_slice, env_fieldAddr, env_field, env_indexAddr, env_index, env_extract, env_len, env_append, env_max, env_min, env_makeMap, env_lookup, env_update])
      have hXg : X = growN (masksN R C) own (sideN R C P false) := by
        rw [grown_is hS9 hown9 hSX hXr fun k j h1 h2 h3 => hc k j h1 (Nat.zero_testBit _) h2 h3, hS, Nat.and_comm]
        exact grown_in
      unfold joinsN
      rw [← hXg]
      refine wneq (fun e => ?_) (fun e => ?_)
      · repeat (first | with_reducible refine wrB ?_)
        refine W.ret ⟨?_, rfl⟩
        rw [decide_eq_false (by omega)]; rfl
      · repeat (first | with_reducible refine wrB ?_)
        refine W.ret ⟨?_, rfl⟩
        rw [decide_eq_true (by omega)]; rfl
    · have hw9 : w < 2 ^ 9 := Nat.lt_of_le_of_lt (sub_le hw) hX
      have hwc : ∀ k, w.testBit k = true → k < R * C := fun k hk => bit_lt hown (hXo k (hw k hk))
      repeat (first | with_reducible refine wT ?_ | with_reducible refine wneqT (by omega) ?_)
      refine loopW (fun m' st => ∃ wd r : Nat, st = impl_search_joins.st1 (.ptr s 0) (.int .i64 (own : Int)) (.int .i64 (P : Int)) (.int .i64 (X : Int)) (.int .i64 (wd : Int)) (.int .i64 (r : Int)) h ∧ wd < 2 ^ 9 ∧ r < 2 ^ 9 ∧ (∀ j, r.testBit j = true → w.testBit j = true) ∧
        (∀ j, wd.testBit j = true ↔ ∃ k, w.testBit k = true ∧ r.testBit k = false ∧ (nearV R C k).testBit j = true) ∧ m' = r) ?_ lf w _ (by omega) ⟨0, w, rfl, by decide, hw9, fun _ h => h, fun j => ⟨fun h => (by rw [Nat.zero_testBit] at h; cases h), fun ⟨k, h1, h2, _⟩ => (by rw [h1] at h2; cases h2)⟩, rfl⟩
      rintro n2 m2 st ⟨wd, r, rfl, hwd, hr, hrw, hwb, hm2⟩ next2
      rw [impl_search_joins.body1_eq]
      unfold impl_search_joins.body1
      simp only [env_C, env_load, env_ptr, env_bin, env_fieldAddr, env_indexAddr]
      by_cases e2 : r = 0
      · subst e2
        have hal : wd &&& own < 2 ^ 9 := Nat.and_lt_two_pow _ hown9
        have hml : minusN (wd &&& own) X < 2 ^ 9 := minusN_lt hal
        repeat (first | with_reducible refine wF ?_ | with_reducible refine wand (by omega) (by omega) ?_ | with_reducible refine wor (by omega) (by omega) ?_ | with_reducible refine wandNot (by omega) (by omega) ?_ | with_reducible refine wneqF (by omega) ?_ | rw [kLoop_exit] | rw [impl_search_joins.after1_se2_0_1_2_7_9_10_24] | simp only [env_C, env_g, env_lf, env_pick, env_alloc, env_box, env_build, env_buildSlice, env_load, env_store, env_ptr, env_bin, env_un, env_conv, env_make, env_slice, env_fieldAddr, env_field, env_indexAddr, env_index, env_extract, env_len, env_append, env_max, env_min, env_makeMap, env_lookup, env_update])
        obtain ⟨w', hw'⟩ : ∃ w', w' = minusN (wd &&& own) X := ⟨_, rfl⟩
        have hb : ∀ j, w'.testBit j = true ↔ (w.testBit j = true ∨ ∃ k, w.testBit k = true ∧ Adj (masksN R C) k j) ∧ own.testBit j = true ∧ X.testBit j = false := fun j => by
          have hwj : wd.testBit j = true ↔ (w.testBit j = true ∨ ∃ k, w.testBit k = true ∧ Adj (masksN R C) k j) := by
            rw [hwb]
            constructor
            · rintro ⟨k, h1, _, h2⟩
              rcases (nearV_bit hB (hwc k h1)).1 h2 with rfl | h3
              · exact .inl h1
              · exact .inr ⟨k, h1, h3⟩
            · rintro (h1 | ⟨k, h1, h3⟩)
              · exact ⟨j, h1, Nat.zero_testBit _, (nearV_bit hB (hwc j h1)).2 (.inl rfl)⟩
              · exact ⟨k, h1, Nat.zero_testBit _, (nearV_bit hB (hwc k h1)).2 (.inr h3)⟩
          rw [← hwj, hw', minusN_bit, Nat.testBit_and]; cases wd.testBit j <;> cases own.testBit j <;> cases X.testBit j <;> simp
        rw [← hw'] at hml ⊢
        have hor : X ||| w' < 2 ^ 9 := Nat.or_lt_two_pow hX hml
        have hle : X ≤ X ||| w' := Nat.left_le_or
        have hne : w' ≠ 0 → X ≠ X ||| w' := fun hz he => by
          obtain ⟨j, hj⟩ := bit_of_ne hz
          have h1 := ((hb j).1 hj).2.2
          rw [he, Nat.testBit_or, hj, Bool.or_true] at h1; cases h1
        refine next _ _ ?_ ⟨X ||| w', w', rfl, hor, fun j hj => by rw [Nat.testBit_or, hj, Bool.or_true], fun j hj => ?_, fun j hj => by rw [Nat.testBit_or, hSX j hj, Bool.true_or], ?_, ?_, rfl⟩
        · rw [hm, if_neg e]
          by_cases e' : w' = 0
          · rw [if_pos e']; omega
          · rw [if_neg e']; have := hne e'; omega
        · rw [Nat.testBit_or, Bool.or_eq_true] at hj
          rcases hj with hj | hj
          · exact hXo j hj
          · exact ((hb j).1 hj).2.1
        · intro j hj
          rw [Nat.testBit_or, Bool.or_eq_true] at hj
          rcases hj with hj | hj
          · exact hXr j hj
          · obtain ⟨h1 | ⟨k, h1, h2⟩, h3, h4⟩ := (hb j).1 hj
            · rw [hw j h1] at h4; cases h4
            · exact .step (hXr k (hw k h1)) h2 (by rw [Nat.testBit_or, h3, Bool.or_true])
        · intro k j h1 h2 h3 h4
          rw [Nat.testBit_or, h2, Bool.or_false] at h1
          rw [Nat.testBit_or]
          by_cases hk : w.testBit k = true
          · cases hx : X.testBit j with
            | true => rfl
            | false => rw [(hb j).2 ⟨.inr ⟨k, hk, h3⟩, h4, hx⟩]; rfl
          · rw [hc k j h1 (by simpa using hk) h3 h4]; rfl
      · have el := leastIn_W g lf hr e2 hbig ht n (by omega)
        obtain ⟨l1, l2, l3, l4⟩ := low_ok hr e2
        obtain ⟨d1, d2⟩ := f_drop hr e2
        have hlt := without_less hr e2
        have hwl := without_lt9 (k := lowN r) hr
        obtain ⟨k, hk⟩ : ∃ k, k = lowN r := ⟨_, rfl⟩
        rw [← hk] at el l1 l2 d2 hlt hwl
        have hnv := nearV_lt hB l2
        have hwr := hrw k l1
        repeat (first | with_reducible refine wT ?_ | with_reducible refine wptr ?_ | with_reducible refine wbd (by assumption) ?_ | (with_reducible refine wbd (fs0 _) ?_) | (with_reducible refine wia9 l2 ?_) | (with_reducible refine wbd (ld1 (by assumption) (srch_near _ _ _ _ l2)) ?_) | with_reducible refine wor (by omega) (by omega) ?_ | with_reducible refine wneqT (by omega) ?_ | dsimp only)
        refine next2 _ _ (hm2 ▸ hlt) ⟨_, _, rfl, Nat.or_lt_two_pow hwd hnv, hwl, fun j hj => ?_, fun j => ?_, rfl⟩
        · rw [without_bit, Bool.and_eq_true] at hj; exact hrw j hj.1
        · rw [Nat.testBit_or, Bool.or_eq_true, hwb]
          constructor
          · rintro (⟨i, h1, h2, h3⟩ | h1)
            · exact ⟨i, h1, by rw [without_bit, h2]; rfl, h3⟩
            · exact ⟨k, hwr, by rw [without_bit]; simp, h1⟩
          · rintro ⟨i, h1, h2, h3⟩
            by_cases hik : i = k
            · subst hik; exact .inr h3
            · rw [without_bit] at h2
              simp only [ne_eq, hik, not_false_eq_true, decide_true, Bool.and_true] at h2
              exact .inl ⟨i, h1, h2, h3⟩
  obtain ⟨_, _, e, rfl, rfl⟩ := this
  exact e

def whoN (R C a b : Nat) : Nat := if joinsN R C 1 a = true then 1 else if joinsN R C 2 b = true then 2 else 0

theorem joined_W {R C f a b t : Nat} (hB : BoardOf R C) (hp : Pos R C a b) (hbig : Big g) {h : PHeap} {s m : Nat} (hs : At h s (srchC R C m)) (ht : Tab64 g h) (N : Nat) (hN : 5 ≤ N) (hlf : 1000 < lf) :
    ∃ h', CL g lf N fn_impl_search_joined [.ptr s 0, stP f a b t] h = some (.int .i64 (whoN R C a b : Int), h') ∧ Keep h.length h h' := by
  obtain ⟨n, rfl⟩ : ∃ n, N = n + 1 := ⟨N - 1, by omega⟩
  have : W (CL g lf (n + 1) fn_impl_search_joined [.ptr s 0, stP f a b t] h) fun v h' => v = .int .i64 (whoN R C a b : Int) ∧ Keep h.length h h' := by
    rw [impl_search_joined.call_eq]
    unfold impl_search_joined.main
    simp only [env_lf, env_box]
    refine wboxS fun h1 id o1 k1 l1 => ?_
    have hs1 := hs.keep k1
    have e1 := joins_W g lf hB (P := 1) (.inl rfl) hp.1 hbig hs1 (ht.keep k1) n (by omega) hlf
    have e2 := joins_W g lf hB (P := 2) (.inr rfl) hp.2.1 hbig hs1 (ht.keep k1) n (by omega) hlf
    refine loopW (fun m' st => ∃ P : Nat, st = impl_search_joined.st0 (.ptr s 0) (.ptr id 0) (.int .i64 (P : Int)) h1 ∧ P + m' = 3 ∧ 1 ≤ P ∧ (2 ≤ P → joinsN R C 1 a = false) ∧ (3 ≤ P → joinsN R C 2 b = false)) ?_ lf 2 _ (by omega) ⟨1, rfl, rfl, by decide, by omega, by omega⟩
    rintro n1 m1 st ⟨P, rfl, hm, hP1, j1, j2⟩ next
    rw [impl_search_joined.body0_eq]
    unfold impl_search_joined.body0
    simp only [env_C, env_load, env_bin, env_fieldAddr, env_indexAddr]
    have hP : P = 1 ∨ P = 2 ∨ P = 3 := by omega
    rcases hP with rfl | rfl | rfl
    · cases hj : joinsN R C 1 a with
      | true =>
        rw [hj] at e1
        repeat (first | with_reducible refine wT ?_ | with_reducible refine wrI ?_ | with_reducible refine wbd (by assumption) ?_ | (with_reducible refine wbd (fSt0 _) ?_) | (with_reducible refine wia3 (by omega) ?_) | (with_reducible refine wbd (ld1 (by assumption) rfl) ?_) | with_reducible refine wleqT (by omega) ?_ | rw [kLoop_ret] | rw [impl_search_joined.K0_ret] | rw [impl_search_joined.top_sr_4] | dsimp only)
        exact W.ret ⟨by unfold whoN; rw [hj]; rfl, k1⟩
      | false =>
        rw [hj] at e1
        repeat (first | with_reducible refine wT ?_ | with_reducible refine wF ?_ | with_reducible refine wbd (by assumption) ?_ | (with_reducible refine wbd (fSt0 _) ?_) | (with_reducible refine wia3 (by omega) ?_) | (with_reducible refine wbd (ld1 (by assumption) rfl) ?_) | with_reducible refine wadd1 (by omega) ?_ | with_reducible refine wleqT (by omega) ?_ | dsimp only)
        exact next _ _ (show 1 < m1 by omega) ⟨2, rfl, rfl, by decide, fun _ => hj, by omega⟩
    · cases hj : joinsN R C 2 b with
      | true =>
        rw [hj] at e2
        repeat (first | with_reducible refine wT ?_ | with_reducible refine wrI ?_ | with_reducible refine wbd (by assumption) ?_ | (with_reducible refine wbd (fSt0 _) ?_) | (with_reducible refine wia3 (by omega) ?_) | (with_reducible refine wbd (ld1 (by assumption) rfl) ?_) | with_reducible refine wleqT (by omega) ?_ | rw [kLoop_ret] | rw [impl_search_joined.K0_ret] | rw [impl_search_joined.top_sr_4] | dsimp only)
        exact W.ret ⟨by unfold whoN; rw [j1 (by decide), hj]; rfl, k1⟩
      | false =>
        rw [hj] at e2
        repeat (first | with_reducible refine wT ?_ | with_reducible refine wF ?_ | with_reducible refine wbd (by assumption) ?_ | (with_reducible refine wbd (fSt0 _) ?_) | (with_reducible refine wia3 (by omega) ?_) | (with_reducible refine wbd (ld1 (by assumption) rfl) ?_) | with_reducible refine wadd1 (by omega) ?_ | with_reducible refine wleqT (by omega) ?_ | dsimp only)
        exact next _ _ (show 0 < m1 by omega) ⟨3, rfl, rfl, by decide, fun _ => j1 (by decide), fun _ => hj⟩
    · repeat (first | with_reducible refine wF ?_ | with_reducible refine wrI ?_ | with_reducible refine wleqF (by omega) ?_ | rw [kLoop_exit] | rw [impl_search_joined.after0_se0_0_3_5_7])
      exact W.ret ⟨by unfold whoN; rw [j1 (by decide), j2 (by decide)]; rfl, k1⟩
  obtain ⟨_, h', e, rfl, k⟩ := this
  exact ⟨h', e, k⟩

end Go.Proofs.YtmhflbomploidaaDoor

/- The program's search with its map: who wins what stands, and by which moves. -/
set_option maxRecDepth 20000
namespace Go.Proofs.YtmhflbomploidaaDoor
open Go Go.Ip G

/-- What may stand: free cells, stones of both, who is to move. -/
def Stands (R C f a b t : Nat) : Prop := Pos R C a b ∧ f < 2 ^ 9 ∧ (∀ k, f.testBit k = true ↔ k < R * C ∧ (a ||| b).testBit k = false) ∧ (t = 1 ∨ t = 2)
theorem Stands.put {R C f a b t k : Nat} (h : Stands R C f a b t) (hk : f.testBit k = true) : Stands R C (without f k) (putA t k a) (putB t k b) (3 - t) := by
  obtain ⟨h1, h2, h3, h4⟩ := h
  obtain ⟨k1, k2⟩ := (h3 k).1 hk
  refine ⟨h1.put k1 k2, without_lt9 h2, fun j => ?_, by omega⟩
  rw [without_bit, put_bit, Bool.and_eq_true, h3, Bool.or_eq_false_iff]
  simp only [decide_eq_true_eq, decide_eq_false_iff_not]
  exact ⟨fun ⟨⟨a1, a2⟩, a3⟩ => ⟨a1, a2, a3⟩, fun ⟨a1, a2, a3⟩ => ⟨⟨a1, a2⟩, a3⟩⟩

/-- Every entry of the map tells who wins. -/
def Memo (R C : Nat) (es : List (PV × PV)) : Prop := ∀ p ∈ es, ∃ f a b t, Stands R C f a b t ∧ p = (stP f a b t, .int .i64 (winN R C a b t : Int))

theorem eqK_st {f a b t f' a' b' t' : Nat} (h : eqK (stP f a b t) (stP f' a' b' t') = true) : f = f' ∧ a = a' ∧ b = b' ∧ t = t' := by
  simp only [eqK, stP, stC, eqL, eq1, Bool.and_eq_true, decide_eq_true_eq] at h
  omega
theorem memo_find {R C f a b t : Nat} : ∀ {es : List (PV × PV)} {v : PV}, Memo R C es → findM es (stP f a b t) = some v → v = .int .i64 (winN R C a b t : Int)
  | [], v, _, h => by cases h
  | p :: es, v, hm, h => by
    obtain ⟨f', a', b', t', _, rfl⟩ := hm p (by simp)
    unfold findM at h
    cases e : eqK (stP f' a' b' t') (stP f a b t) with
    | true =>
      rw [e] at h
      obtain ⟨_, rfl, rfl, rfl⟩ := eqK_st e
      cases h; rfl
    | false =>
      rw [e] at h
      exact memo_find (fun q hq => hm q (by simp [hq])) h
theorem memo_put {R C f a b t : Nat} (hs : Stands R C f a b t) : ∀ {es : List (PV × PV)}, Memo R C es → Memo R C (putM es (stP f a b t) (.int .i64 (winN R C a b t : Int)))
  | [], _ => fun p hp => by
    simp only [putM, List.mem_singleton] at hp
    exact ⟨f, a, b, t, hs, hp⟩
  | p :: es, hm => by
    obtain ⟨f', a', b', t', hs', rfl⟩ := hm p (by simp)
    have hr : Memo R C es := fun q hq => hm q (by simp [hq])
    unfold putM
    cases e : eqK (stP f' a' b' t') (stP f a b t) with
    | true =>
      obtain ⟨rfl, rfl, rfl, rfl⟩ := eqK_st e
      intro q hq
      rcases List.mem_cons.1 hq with rfl | hq
      · exact ⟨f', a', b', t', hs, rfl⟩
      · exact hr q hq
    | false =>
      intro q hq
      rcases List.mem_cons.1 hq with rfl | hq
      · exact ⟨f', a', b', t', hs', rfl⟩
      · exact memo_put hs hr q hq

/-! ### the keys -/
theorem keyedSt : keyedB Tryd.prog 58 = true := by kernel_rfl
theorem zeroInt : zero1 Tryd.prog 3 = some (.int .i64 0) := by kernel_rfl
theorem stU : Tryd.prog.underlying 58 = some (.struct (Tryd.prog.fieldsOf 58)) := by kernel_rfl
theorem stF : (Tryd.prog.fieldsOf 58).toList.map (fun f => (f.type, f.offset)) = [(56, 0), (3, 3)] := by kernel_rfl
theorem stN : (Tryd.prog.fieldsOf 58).all (·.name != "_") = true := by kernel_rfl
theorem stK : Tryd.prog.keyType 58 = true := by kernel_rfl
theorem tyIntU : Tryd.prog.underlying 3 = some (.int .i64) := by kernel_rfl
theorem ce1 : Tryd.prog.cellsOf 3 = 1 := by kernel_rfl
theorem ce3 : Tryd.prog.cellsOf 56 = 3 := by kernel_rfl
theorem ce4 : Tryd.prog.cellsOf 58 = 4 := by kernel_rfl
theorem tySz : Nat.ble 2 Tryd.prog.types.size = true := by kernel_rfl
theorem wf_small {x : Nat} (hx : x < 2 ^ 9) : (Lit.int .i64 (x : Int)).wf = true := by
  have h1 : IntKind.i64.min = -9223372036854775808 := by decide
  have h2 : IntKind.i64.max = 9223372036854775807 := by decide
  simp only [Lit.wf, h1, h2, Bool.and_eq_true, decide_eq_true_eq]
  omega
theorem lits_int {D x : Nat} (hx : x < 2 ^ 9) : Tryd.prog.keyLits (D + 1) 3 [.int .i64 (x : Int)] = some [.int .i64 (x : Int)] := by
  simp [Program.keyLits, tyIntU, wf_small hx]
theorem lits_arr {D x y z : Nat} (hx : x < 2 ^ 9) (hy : y < 2 ^ 9) (hz : z < 2 ^ 9) : Tryd.prog.keyLits (D + 2) 56 [.int .i64 (x : Int), .int .i64 (y : Int), .int .i64 (z : Int)] = some [.int .i64 (x : Int), .int .i64 (y : Int), .int .i64 (z : Int)] := by
  unfold Program.keyLits
  rw [tyA3]
  simp only [ce1, ce3, List.length_cons, List.length_nil, if_true]
  rw [show List.range 3 = [0, 1, 2] from rfl]
  simp [lits_int hx, lits_int hy, lits_int hz]
theorem lits_st {D f a b t : Nat} (hf : f < 2 ^ 9) (ha : a < 2 ^ 9) (hb : b < 2 ^ 9) (ht : t < 2 ^ 9) : ∃ L, Tryd.prog.keyLits (D + 3) 58 [.int .i64 (f : Int), .int .i64 (a : Int), .int .i64 (b : Int), .int .i64 (t : Int)] = some L := by
  unfold Program.keyLits
  rw [stU]
  simp only [ce4, List.length_cons, List.length_nil, stN, and_self, if_true]
  have hF := stF
  generalize Tryd.prog.fieldsOf 58 = fs at hF ⊢
  obtain ⟨L⟩ := fs
  match L, hF with
  | [f0, f1], hF =>
    simp only [List.map_cons, List.map_nil, List.cons.injEq, Prod.mk.injEq, and_true] at hF
    obtain ⟨⟨t0, o0⟩, t1, o1⟩ := hF
    refine ⟨[.int .i64 (f : Int), .int .i64 (a : Int), .int .i64 (b : Int), .int .i64 (t : Int)], ?_⟩
    simp [t0, o0, t1, o1, ce1, ce3, lits_arr hf ha hb, lits_int ht]
  | [], hF => simp at hF
  | [_], hF => simp at hF
  | _ :: _ :: _ :: _, hF => simp at hF
theorem isKey_st {R C f a b t : Nat} (hB : BoardOf R C) (hs : Stands R C f a b t) : isKeyP Tryd.prog 58 (stP f a b t) = true := by
  obtain ⟨hp, hf, _, ht⟩ := hs
  have l9 := hp.lt9 hB
  obtain ⟨D, hD⟩ : ∃ D, Tryd.prog.types.size + 1 = D + 3 := ⟨Tryd.prog.types.size - 2, by have := Nat.le_of_ble_eq_true tySz; omega⟩
  obtain ⟨L, hL⟩ := lits_st (D := D) hf l9.1 l9.2 (show t < 2 ^ 9 by omega)
  have hk : keyV (stP f a b t) = some (.agg #[.int .i64 (f : Int), .int .i64 (a : Int), .int .i64 (b : Int), .int .i64 (t : Int)]) := rfl
  have hfo : (Value.agg #[.int .i64 (f : Int), .int .i64 (a : Int), .int .i64 (b : Int), .int .i64 (t : Int)]).formed Tryd.prog 58 = true := by
    simp [Value.formed, stU, ce4]
  unfold isKeyP
  rw [hk]
  simp only [keyOf, stU, stK, hfo, Bool.and_self, if_true, hD, Value.cells, hL, Option.map_some, Option.isSome_some]
theorem keys_memo {R C : Nat} {es : List (PV × PV)} (hB : BoardOf R C) (hm : Memo R C es) {f a b t : Nat} (hs : Stands R C f a b t) : keysB Tryd.prog 58 es (stP f a b t) = true := by
  unfold keysB
  rw [keyedSt, isKey_st hB hs, Bool.and_self, Bool.true_and, List.all_eq_true]
  intro p hp
  obtain ⟨f', a', b', t', hs', rfl⟩ := hm p hp
  exact isKey_st hB hs'

theorem look_st {R C m : Nat} {es : List (PV × PV)} {h : PHeap} (hB : BoardOf R C) (hM : MapAt h m es) (hm : Memo R C es) {f a b t : Nat} (hs : Stands R C f a b t) :
    lookupP Tryd.prog 74 (.mapv m) (stP f a b t) true h = some (foundP true (.int .i64 0) (findM es (stP f a b t))) := by
  have hk := keys_memo hB hm hs
  have hma : mapAt h m = some es := by unfold mapAt; rw [show h[m]? = some (.mp es) from hM]
  simp only [lookupP, tyMp, hma, zeroInt, hk, cond_true]
theorem upd_st {R C m : Nat} {es : List (PV × PV)} {h : PHeap} (hB : BoardOf R C) (hM : MapAt h m es) (hm : Memo R C es) {f a b t : Nat} (hs : Stands R C f a b t) (x : Int) :
    updateP Tryd.prog 74 (.mapv m) (stP f a b t) (.int .i64 x) h = some (h.set m (.mp (putM es (stP f a b t) (.int .i64 x)))) := by
  have hk := keys_memo hB hm hs
  have hma : mapAt h m = some es := by unfold mapAt; rw [show h[m]? = some (.mp es) from hM]
  simp only [updateP, tyMp, hma, hk, PV.oneCell, Bool.and_self, cond_true]

/-- The search of a board: its tables, and its map, right in every entry. -/
def Sch (R C : Nat) (h : PHeap) (s m : Nat) : Prop := At h s (srchC R C m) ∧ ∃ es, MapAt h m es ∧ Memo R C es
theorem Sch.keep {R C s m : Nat} {h h' : PHeap} (hs : Sch R C h s m) (k : Keep h.length h h') : Sch R C h' s m := by
  obtain ⟨a, es, b, c⟩ := hs; exact ⟨a.keep k, es, b.keep k, c⟩
theorem Sch.ne {R C s m id : Nat} {h : PHeap} {l : List PV} (hs : Sch R C h s m) (a : At h id l) : id ≠ m := by
  obtain ⟨_, es, b, _⟩ := hs; exact a.ne b
theorem Sch.lt {R C s m : Nat} {h : PHeap} (hs : Sch R C h s m) : m < h.length := by
  obtain ⟨_, es, b, _⟩ := hs; exact b.lt
theorem Tab64.kb {g : Nat → PV} {R C s m : Nat} {h h' : PHeap} (t : Tab64 g h) (hs : Sch R C h s m) (k : KB m h h') : Tab64 g h' := fun id e => by
  have ho := t id e
  obtain ⟨_, es, b, _⟩ := hs
  rw [k.2 id (List.getElem?_eq_some_iff.1 ho).1 (fun e => by subst e; unfold MapAt at b; rw [ho] at b; cases b)]; exact ho
theorem Tab.kb {g : Nat → PV} {R C s m : Nat} {h h' : PHeap} (t : Tab g h) (hs : Sch R C h s m) (k : KB m h h') : Tab g h' := by
  obtain ⟨id, e, ho⟩ := t
  obtain ⟨_, es, b, _⟩ := hs
  exact ⟨id, e, by rw [k.2 id (List.getElem?_eq_some_iff.1 ho).1 (fun e => by subst e; unfold MapAt at b; rw [ho] at b; cases b)]; exact ho⟩

theorem who_win {R C a b t : Nat} (hB : BoardOf R C) (hp : Pos R C a b) : (whoN R C a b ≠ 0 → winN R C a b t = whoN R C a b) ∧ (whoN R C a b = 0 → joinsN R C 1 a = false ∧ joinsN R C 2 b = false) ∧ whoN R C a b ≤ 2 := by
  unfold whoN
  cases h1 : joinsN R C 1 a with
  | true => exact ⟨fun _ => win_first h1, fun h => by simp at h, by simp⟩
  | false =>
    cases h2 : joinsN R C 2 b with
    | true => exact ⟨fun _ => by rw [win_second hB hp h2]; rfl, fun h => by simp at h, by simp⟩
    | false => exact ⟨fun h => by simp at h, fun _ => ⟨rfl, rfl⟩, by simp⟩

theorem fr_put' {R C f a b t k : Nat} (hs : Stands R C f a b t) (hk : f.testBit k = true) : frN (R * C) (putA t k a) (putB t k b) + 1 ≤ frN (R * C) a b := by
  obtain ⟨k1, k2⟩ := (hs.2.2.1 k).1 hk; exact fr_put k1 k2

variable (g : Nat → PV) (lf n : Nat)

def WinOk (R C s m : Nat) (b : Nat) : Prop := ∀ (f a b' t N : Nat) (h : PHeap), frN (R * C) a b' ≤ b → Stands R C f a b' t → 2 * b + 8 ≤ N → Sch R C h s m → Tab64 g h →
  W (CL g lf N fn_impl_search_winner [.ptr s 0, stP f a b' t] h) fun v h' => v = .int .i64 (winN R C a b' t : Int) ∧ Sch R C h' s m ∧ KB m h h'

theorem solved_W {R C s m B : Nat} (hB : BoardOf R C) (hbig : Big g) (hlf : 1000 < lf) (ih : ∀ b, b < B → WinOk g lf R C s m b) {f a b t : Nat} (hfr : frN (R * C) a b ≤ B) (hst : Stands R C f a b t) (N : Nat) (hN : 2 * B + 7 ≤ N) {h : PHeap} (hs : Sch R C h s m) (ht : Tab64 g h) :
    W (CL g lf N fn_impl_search_solved [.ptr s 0, stP f a b t] h) fun v h' => v = .int .i64 (winN R C a b t : Int) ∧ Sch R C h' s m ∧ KB m h h' := by
  obtain ⟨n, rfl⟩ : ∃ n, N = n + 1 := ⟨N - 1, by omega⟩
  obtain ⟨hp, hf9, hfree, hT⟩ := id hst
  have h9 := hB.2.2.2.2
  have l9 := hp.lt9 hB
  obtain ⟨w1, w2, w3⟩ := who_win (t := t) hB hp
  rw [impl_search_solved.call_eq]
  unfold impl_search_solved.main
  simp only [env_C, env_lf, env_box, env_load, env_bin, env_fieldAddr, env_indexAddr]
  refine wboxS fun h1 id o1 k1 l1 => ?_
  have hs1 := hs.keep k1
  have ht1 := ht.keep k1
  obtain ⟨h2, e1, k2⟩ := joined_W g lf (f := f) (t := t) hB hp hbig hs1.1 ht1 n (by omega) hlf
  have hs2 := hs1.keep k2
  have ht2 := ht1.keep k2
  have o2 := o1.keep k2
  repeat (first | with_reducible refine wbd (by assumption) ?_ | (with_reducible refine wbd (ldS (by assumption)) ?_) | dsimp only)
  refine wneq (fun e => ?_) (fun e => ?_)
  · repeat (first | with_reducible refine wT ?_ | with_reducible refine wrI ?_)
    exact W.ret ⟨by rw [w1 (by omega)], hs2, k1.kb.trans k2.kb⟩
  · obtain ⟨j1, j2⟩ := w2 (by omega)
    have hwo := win_open (t := t) j1 j2
    have e3 : ∀ h, CL g lf n fn_impl_exchanged [.int .i64 (t : Int)] h = some (.int .i64 ((3 - t : Nat) : Int), h) := fun h => exchanged_W g lf n (by omega) h hT
    repeat (first | with_reducible refine wF ?_ | (with_reducible refine wbd (fSt0 _) ?_) | (with_reducible refine wia30 ?_) | (with_reducible refine wbd (ld1 (by assumption) rfl) ?_))
    refine loopW (fun m' st => ∃ (r : Nat) (h3 : PHeap), st = impl_search_solved.st0 (.ptr s 0) (.ptr id 0) (.int .i64 (r : Int)) h3 ∧ r < 2 ^ 9 ∧ (∀ k, r.testBit k = true → f.testBit k = true) ∧ (∀ k, f.testBit k = true → r.testBit k = false → winN R C (putA t k a) (putB t k b) (3 - t) ≠ t) ∧
      At h3 id (stC f a b t) ∧ Sch R C h3 s m ∧ Tab64 g h3 ∧ KB m h2 h3 ∧ m' = r) ?_ lf f _ (by omega) ⟨f, h2, rfl, hf9, fun _ h => h, fun k h1 h2 => (by rw [h1] at h2; cases h2), o2, hs2, ht2, KB.refl _ _, rfl⟩
    rintro n1 m1 st ⟨r, h3, rfl, hr, hrf, hno, o3, hs3, ht3, k3, hm⟩ next
    rw [impl_search_solved.body0_eq]
    unfold impl_search_solved.body0
    simp only [env_C, env_load, env_bin, env_fieldAddr]
    by_cases e4 : r = 0
    · subst e4
      have e3' := e3 h3
      repeat (first | with_reducible refine wF ?_ | with_reducible refine wrI ?_ | with_reducible refine wbd (by assumption) ?_ | (with_reducible refine wbd (fSt1 _) ?_) | (with_reducible refine wbd (ld1 (by assumption) rfl) ?_) | with_reducible refine wneqF (by omega) ?_ | rw [kLoop_exit] | rw [impl_search_solved.after0_se0_0_3_6_17] | dsimp only | simp only [env_C, env_g, env_lf, env_pick, env_alloc, env_box, env_build, env_buildSlice, env_load, env_store, env_ptr, env_bin, env_un, env_conv, env_make, env_slice, env_fieldAddr, env_field, env_indexAddr, env_index, env_extract, env_len, env_append, env_max, env_min, env_makeMap, env_lookup, env_update])
      refine W.ret ⟨?_, hs3, (k1.kb.trans k2.kb).trans k3⟩
      have hmv : moveB R C a b t = false := by
        cases hh : moveB R C a b t with
        | false => rfl
        | true =>
          obtain ⟨k, c1, c2, c3⟩ := moveB_iff.1 hh
          exact absurd c3 (hno k ((hfree k).2 ⟨c1, c2⟩) (Nat.zero_testBit _))
      rw [hwo, hmv]; rfl
    · have el := leastIn_W g lf hr e4 hbig ht3 n (by omega)
      obtain ⟨c1, c2, c3, c4⟩ := low_ok hr e4
      obtain ⟨d1, d2⟩ := f_drop hr e4
      have hlt := without_less hr e4
      have hwl := without_lt9 (k := lowN r) hr
      obtain ⟨k, hk⟩ : ∃ k, k = lowN r := ⟨_, rfl⟩
      rw [← hk] at el c1 c2 d2 hlt hwl
      have hkf := hrf k c1
      have hfr' := fr_put' hst hkf
      have hst' := hst.put hkf
      repeat (first | with_reducible refine wT ?_ | with_reducible refine wck plain_int ?_ | with_reducible refine wbd (by assumption) ?_ | (with_reducible refine wbd (fSt1 _) ?_) | (with_reducible refine wbd (ld1 (by assumption) rfl) ?_) | (with_reducible refine wbd (ldS (by assumption)) ?_) | (with_reducible refine wck plainS ?_) | with_reducible refine wneqT (by omega) ?_ | dsimp only)
      refine wcall (after_W g lf hf9 l9.1 l9.2 c2 hT n (by omega) h3) fun v h4 ⟨hv, k4⟩ => ?_
      subst hv
      have o4 := o3.keep k4
      have hs4 := hs3.keep k4
      have ht4 := ht3.keep k4
      repeat (first | with_reducible refine wck plain_int ?_ | (with_reducible refine wbd (ld1 (by assumption) rfl) ?_) | (with_reducible refine wbd (ldS (by assumption)) ?_) | (with_reducible refine wck plainS ?_) | dsimp only)
      refine wcall (ih (B - 1) (by omega) _ _ _ _ n h4 (by omega) hst' (by omega) hs4 ht4) fun v h5 ⟨hv, hs5, k5⟩ => ?_
      subst hv
      have o5 := o4.kb k5 (hs4.ne o4)
      have ht5 := ht4.kb hs4 k5
      repeat (first | with_reducible refine wck plain_int ?_ | (with_reducible refine wbd (ld1 (by assumption) rfl) ?_) | (with_reducible refine wbd (ldS (by assumption)) ?_) | (with_reducible refine wck plainS ?_) | dsimp only)
      refine weql (fun e5 => ?_) (fun e5 => ?_)
      · repeat (first | with_reducible refine wT ?_ | with_reducible refine wrI ?_ | (with_reducible refine wbd (fSt1 _) ?_) | (with_reducible refine wbd (ld1 (by assumption) rfl) ?_) | rw [kLoop_ret] | rw [impl_search_solved.K0_ret] | rw [impl_search_solved.top_sr_4])
        refine W.ret ⟨?_, hs5, ((k1.kb.trans k2.kb).trans k3).trans (k4.kb.trans k5)⟩
        obtain ⟨q1, q2⟩ := (hfree k).1 hkf
        have hmv : moveB R C a b t = true := moveB_iff.2 ⟨k, q1, q2, by omega⟩
        rw [hwo, hmv]; rfl
      · repeat (first | with_reducible refine wF ?_ | with_reducible refine wbd (by assumption) ?_)
        refine next _ _ (hm ▸ hlt) ⟨_, h5, rfl, hwl, fun j hj => ?_, fun j hj1 hj2 => ?_, o5, hs5, ht5, k3.trans (k4.kb.trans k5), rfl⟩
        · rw [without_bit, Bool.and_eq_true] at hj; exact hrf j hj.1
        · by_cases hjk : j = k
          · subst hjk; omega
          · rw [without_bit] at hj2
            simp only [ne_eq, hjk, not_false_eq_true, decide_true, Bool.and_true] at hj2
            exact hno j hj1 hj2

theorem sWinner_W {R C s m : Nat} (hB : BoardOf R C) (hbig : Big g) (hlf : 1000 < lf) (B : Nat) : WinOk g lf R C s m B := by
  induction B using Nat.strongRecOn with
  | _ B ih =>
  intro f a b t N h hfr hst hN hs ht
  obtain ⟨n, rfl⟩ : ∃ n, N = n + 1 := ⟨N - 1, by omega⟩
  rw [impl_search_winner.call_eq]
  unfold impl_search_winner.main
  simp only [env_C, env_box, env_load, env_ptr, env_un, env_fieldAddr, env_extract, env_lookup, env_update]
  refine wboxS fun h1 id o1 k1 l1 => ?_
  have hs1 := hs.keep k1
  have ht1 := ht.keep k1
  obtain ⟨sa, es, ma, mm⟩ := _root_.id hs1
  have hlook := look_st hB ma mm hst
  repeat (first | with_reducible refine wptr ?_ | with_reducible refine wbd (by assumption) ?_ | (with_reducible refine wbd (fs3 _) ?_) | (with_reducible refine wbd (ldS (by assumption)) ?_) | (with_reducible refine wbd (ldM (by assumption) (srch_map _ _ _)) ?_) | dsimp only)
  cases hfd : findM es (stP f a b t) with
  | some v =>
    have hv := memo_find mm hfd
    subst hv
    refine wx0 ?_
    refine wx1 ?_
    repeat (first | with_reducible refine wF ?_ | with_reducible refine wnT ?_ | with_reducible refine wrI ?_)
    exact W.ret ⟨rfl, hs1, k1.kb⟩
  | none =>
    refine wx0 ?_
    refine wx1 ?_
    repeat (first | with_reducible refine wT ?_ | with_reducible refine wnF ?_ | (with_reducible refine wbd (ldS (by assumption)) ?_))
    refine wcall (solved_W g lf hB hbig hlf ih hfr hst n (by omega) hs1 ht1) fun v h2 ⟨hv, hs2, k2⟩ => ?_
    subst hv
    have o2 := o1.kb k2 (hs1.ne o1)
    obtain ⟨sa2, es2, ma2, mm2⟩ := _root_.id hs2
    repeat (first | with_reducible refine wptr ?_ | (with_reducible refine wbd (fs3 _) ?_) | (with_reducible refine wbd (ldS (by assumption)) ?_) | (with_reducible refine wbd (ldM (by assumption) (srch_map _ _ _)) ?_) | dsimp only)
    refine wbd (upd_st hB ma2 mm2 hst _) ?_
    have ma3 : MapAt (h2.set m (.mp (putM es2 (stP f a b t) (.int .i64 (winN R C a b t : Int))))) m (putM es2 (stP f a b t) (.int .i64 (winN R C a b t : Int))) := by
      unfold MapAt; rw [List.getElem?_set_self ma2.lt]
    have k3 : KB m h2 (h2.set m (.mp (putM es2 (stP f a b t) (.int .i64 (winN R C a b t : Int))))) := ⟨by simp, fun i _ hn => List.getElem?_set_ne (by omega)⟩
    generalize h2.set m (.mp (putM es2 (stP f a b t) (.int .i64 (winN R C a b t : Int)))) = h3 at ma3 k3 ⊢
    have sa3 := sa2.kb k3 (sa2.ne ma2)
    repeat (first | with_reducible refine wrI ?_ | with_reducible refine wck plain_map ?_ | (with_reducible refine wbd (ldM (by assumption) (srch_map _ _ _)) ?_))
    exact W.ret ⟨rfl, ⟨sa3, _, ma3, memo_put hst mm2⟩, (k1.kb.trans k2).trans k3⟩

end Go.Proofs.YtmhflbomploidaaDoor

/- The program's search: made for a board, begun at a position; the moves by which one wins. -/
set_option maxRecDepth 20000
namespace Go.Proofs.YtmhflbomploidaaDoor
open Go Go.Ip G

variable (g : Nat → PV) (lf n : Nat)

theorem sWinning_W {R C s m : Nat} (hB : BoardOf R C) (hbig : Big g) (hlf : 1000 < lf) {f a b t : Nat} (hst : Stands R C f a b t) (N : Nat) (hN : 30 ≤ N) {h : PHeap} (hs : Sch R C h s m) (ht : Tab64 g h) :
    W (CL g lf N fn_impl_search_winning [.ptr s 0, stP f a b t] h) fun v h' => ∃ S : Nat, v = .int .i64 (S : Int) ∧ S < 2 ^ 9 ∧ (∀ k, S.testBit k = true ↔ whoN R C a b = 0 ∧ f.testBit k = true ∧ winN R C (putA t k a) (putB t k b) (3 - t) = t) ∧ Sch R C h' s m ∧ KB m h h' := by
  obtain ⟨n, rfl⟩ : ∃ n, N = n + 1 := ⟨N - 1, by omega⟩
  obtain ⟨hp, hf9, hfree, hT⟩ := id hst
  have h9 := hB.2.2.2.2
  have l9 := hp.lt9 hB
  obtain ⟨w1, w2, w3⟩ := who_win (t := t) hB hp
  rw [impl_search_winning.call_eq]
  unfold impl_search_winning.main
  simp only [env_C, env_lf, env_box, env_load, env_bin, env_fieldAddr, env_indexAddr]
  refine wboxS fun h1 id o1 k1 l1 => ?_
  have hs1 := hs.keep k1
  have ht1 := ht.keep k1
  obtain ⟨h2, e1, k2⟩ := joined_W g lf (f := f) (t := t) hB hp hbig hs1.1 ht1 n (by omega) hlf
  have hs2 := hs1.keep k2
  have ht2 := ht1.keep k2
  have o2 := o1.keep k2
  repeat (first | with_reducible refine wbd (by assumption) ?_ | (with_reducible refine wbd (ldS (by assumption)) ?_) | dsimp only)
  refine wneq (fun e => ?_) (fun e => ?_)
  · repeat (first | with_reducible refine wT ?_ | with_reducible refine wrI ?_)
    exact W.ret ⟨0, rfl, by decide, fun k => ⟨fun hh => (by rw [Nat.zero_testBit] at hh; cases hh), fun hh => absurd hh.1 (by omega)⟩, hs2, k1.kb.trans k2.kb⟩
  · have hw0 : whoN R C a b = 0 := by omega
    repeat (first | with_reducible refine wF ?_ | (with_reducible refine wbd (fSt0 _) ?_) | (with_reducible refine wia30 ?_) | (with_reducible refine wbd (ld1 (by assumption) rfl) ?_))
    refine loopW (fun m' st => ∃ (S r : Nat) (h3 : PHeap), st = impl_search_winning.st0 (.ptr s 0) (.ptr id 0) (.int .i64 (S : Int)) (.int .i64 (r : Int)) h3 ∧ r < 2 ^ 9 ∧ S < 2 ^ 9 ∧ (∀ k, r.testBit k = true → f.testBit k = true) ∧ (∀ k, S.testBit k = true ↔ f.testBit k = true ∧ r.testBit k = false ∧ winN R C (putA t k a) (putB t k b) (3 - t) = t) ∧
      At h3 id (stC f a b t) ∧ Sch R C h3 s m ∧ Tab64 g h3 ∧ KB m h2 h3 ∧ m' = r) ?_ lf f _ (by omega) ⟨0, f, h2, rfl, hf9, by decide, fun _ h => h, fun k => ⟨fun hh => (by rw [Nat.zero_testBit] at hh; cases hh), fun ⟨h1, h2, _⟩ => (by rw [h1] at h2; cases h2)⟩, o2, hs2, ht2, KB.refl _ _, rfl⟩
    rintro n1 m1 st ⟨S, r, h3, rfl, hr, hS, hrf, hSb, o3, hs3, ht3, k3, hm⟩ next
    rw [impl_search_winning.body0_eq]
    unfold impl_search_winning.body0
    simp only [env_C, env_load, env_bin, env_fieldAddr]
    by_cases e4 : r = 0
    · subst e4
      repeat (first | with_reducible refine wF ?_ | with_reducible refine wrI ?_ | with_reducible refine wneqF (by omega) ?_ | rw [kLoop_exit] | rw [impl_search_winning.after0_se0_0_3_5_6_16])
      refine W.ret ⟨S, rfl, hS, fun k => ?_, hs3, (k1.kb.trans k2.kb).trans k3⟩
      rw [hSb]
      exact ⟨fun ⟨c1, _, c3⟩ => ⟨hw0, c1, c3⟩, fun ⟨_, c1, c3⟩ => ⟨c1, Nat.zero_testBit _, c3⟩⟩
    · have el := leastIn_W g lf hr e4 hbig ht3 n (by omega)
      obtain ⟨c1, c2, c3, c4⟩ := low_ok hr e4
      obtain ⟨d1, d2⟩ := f_drop hr e4
      have hlt := without_less hr e4
      have hwl := without_lt9 (k := lowN r) hr
      obtain ⟨k, hk⟩ : ∃ k, k = lowN r := ⟨_, rfl⟩
      rw [← hk] at el c1 c2 d2 hlt hwl
      have hkf := hrf k c1
      have hst' := hst.put hkf
      have hsl := shl_lt c2
      repeat (first | with_reducible refine wT ?_ | with_reducible refine wbd (by assumption) ?_ | (with_reducible refine wbd (fSt1 _) ?_) | (with_reducible refine wbd (ld1 (by assumption) rfl) ?_) | (with_reducible refine wbd (ldS (by assumption)) ?_) | with_reducible refine wneqT (by omega) ?_ | dsimp only)
      refine wcall (after_W g lf hf9 l9.1 l9.2 c2 hT n (by omega) h3) fun v h4 ⟨hv, k4⟩ => ?_
      subst hv
      have o4 := o3.keep k4
      have hs4 := hs3.keep k4
      have ht4 := ht3.keep k4
      repeat (first | with_reducible refine wck plain_int ?_ | (with_reducible refine wbd (ld1 (by assumption) rfl) ?_) | (with_reducible refine wbd (ldS (by assumption)) ?_) | (with_reducible refine wck plainS ?_) | dsimp only)
      refine wcall (sWinner_W g lf hB hbig hlf 9 _ _ _ _ n h4 (Nat.le_trans (fr_le _ _ _) h9) hst' (by omega) hs4 ht4) fun v h5 ⟨hv, hs5, k5⟩ => ?_
      subst hv
      have o5 := o4.kb k5 (hs4.ne o4)
      have ht5 := ht4.kb hs4 k5
      have hrw : ∀ j, (without r k).testBit j = true → f.testBit j = true := fun j hj => by
        rw [without_bit, Bool.and_eq_true] at hj; exact hrf j hj.1
      repeat (first | with_reducible refine wck plain_int ?_ | (with_reducible refine wbd (ld1 (by assumption) rfl) ?_) | (with_reducible refine wbd (ldS (by assumption)) ?_) | (with_reducible refine wck plainS ?_) | dsimp only)
      refine weql (fun e5 => ?_) (fun e5 => ?_)
      · repeat (first | with_reducible refine wT ?_ | with_reducible refine wbd (by assumption) ?_ | with_reducible refine wshl (by omega) ?_ | with_reducible refine wor (by omega) (by omega) ?_)
        refine next _ _ (hm ▸ hlt) ⟨_, _, h5, rfl, hwl, Nat.or_lt_two_pow hS hsl, hrw, fun j => ?_, o5, hs5, ht5, k3.trans (k4.kb.trans k5), rfl⟩
        rw [with_bit, Bool.or_eq_true, hSb, without_bit, decide_eq_true_iff]
        by_cases hjk : j = k
        · subst hjk
          exact ⟨fun _ => ⟨hkf, by simp, by omega⟩, fun _ => .inr rfl⟩
        · simp only [ne_eq, hjk, not_false_eq_true, decide_true, Bool.and_true, or_false]
      · repeat (first | with_reducible refine wF ?_ | with_reducible refine wbd (by assumption) ?_)
        refine next _ _ (hm ▸ hlt) ⟨_, _, h5, rfl, hwl, hS, hrw, fun j => ?_, o5, hs5, ht5, k3.trans (k4.kb.trans k5), rfl⟩
        rw [hSb, without_bit]
        by_cases hjk : j = k
        · subst hjk
          exact ⟨fun hh => (by rw [c1] at hh; cases hh.2.1), fun hh => absurd hh.2.2 (by omega)⟩
        · simp only [ne_eq, hjk, not_false_eq_true, decide_true, Bool.and_true]

/-! ### a search is made -/
def slotV (R C i p j : Nat) : Nat :=
  if j < 9 then (if j < i then nearV R C j else 0) else if j = 10 ∧ 2 ≤ p then sideN R C 1 false else if j = 11 ∧ 3 ≤ p then sideN R C 2 false else if j = 13 ∧ 2 ≤ p then sideN R C 1 true else if j = 14 ∧ 3 ≤ p then sideN R C 2 true else 0
def fillC (R C m i p : Nat) : List PV := ((List.range 15).map (slotV R C i p)).map (fun x : Nat => .int .i64 (x : Int)) ++ [.mapv m]
theorem fillC_length (R C m i p : Nat) : (fillC R C m i p).length = 16 := by simp [fillC]
theorem fill_done (R C m : Nat) : fillC R C m (R * C) 3 = srchC R C m := by
  have hn : ∀ j ∈ List.range 9, slotV R C (R * C) 3 j = nearV R C j := fun j hj => by
    have hj := List.mem_range.1 hj
    unfold slotV nearV
    rw [if_pos hj]
    by_cases h : j < R * C <;> simp [h]
  unfold fillC srchC srchV
  rw [show List.range 15 = List.range 9 ++ [9, 10, 11, 12, 13, 14] from rfl, List.map_append, List.map_congr_left hn]
  rfl
theorem fill_near {R C m i p : Nat} (hi : i < 9) : (fillC R C m i p).set (0 + i) (.int .i64 (nearV R C i : Int)) = fillC R C m (i + 1) p := by
  unfold fillC
  rw [Nat.zero_add, List.set_append_left _ _ (by simp; omega), ← List.map_set]
  congr 2
  apply List.ext_getElem (by simp)
  intro j h1 h2
  simp only [List.getElem_set, List.getElem_map, List.getElem_range]
  unfold slotV
  by_cases e : i = j
  · subst e; rw [if_pos rfl, if_pos hi, if_pos (by omega)]
  · rw [if_neg e]
    by_cases h9 : j < 9
    · rw [if_pos h9, if_pos h9]
      by_cases h : j < i
      · rw [if_pos h, if_pos (by omega)]
      · rw [if_neg h, if_neg (by omega)]
    · rw [if_neg h9, if_neg h9]
theorem fill_one (R C m i : Nat) : ((fillC R C m i 1).set (9 + 1) (.int .i64 (sideN R C 1 false : Int))).set (12 + 1) (.int .i64 (sideN R C 1 true : Int)) = fillC R C m i 2 := by rfl
theorem fill_two (R C m i : Nat) : ((fillC R C m i 2).set (9 + 2) (.int .i64 (sideN R C 2 false : Int))).set (12 + 2) (.int .i64 (sideN R C 2 true : Int)) = fillC R C m i 3 := by rfl
theorem bldS (m : Nat) : buildP Tryd.prog 77 [(3, .mapv m)] = some (.agg (fillC 1 1 m 0 1)) := by kernel_rfl
theorem fill_zero (R C m : Nat) : fillC 1 1 m 0 1 = fillC R C m 0 1 := by
  unfold fillC
  congr 2

theorem wmkM {Q : PV → PHeap → Prop} {h : PHeap} {F : PV × PHeap → Res} (hf : ∀ h' m, MapAt h' m [] → Keep h.length h h' → h.length ≤ m → W (F (.mapv m, h')) Q) : W ((makeMapP none h).bind F) Q :=
  hf _ _ (by unfold MapAt; simp) (Keep.append _ _ _ (Nat.le_refl _)) (Nat.le_refl _)

theorem newSearch_W {R C : Nat} (hB : BoardOf R C) (N : Nat) (hN : 7 ≤ N) (hlf : 1000 < lf) {h : PHeap} (ht : Tab g h) :
    W (CL g lf N fn_impl_newSearch [.int .i64 (R : Int), .int .i64 (C : Int)] h) fun v h' => ∃ s m, v = .ptr s 0 ∧ Sch R C h' s m ∧ Keep h.length h h' ∧ h.length ≤ s ∧ h.length ≤ m := by
  obtain ⟨n, rfl⟩ : ∃ n, N = n + 1 := ⟨N - 1, by omega⟩
  obtain ⟨b1, b2, b3, b4, h9⟩ := id hB
  rw [impl_newSearch.call_eq]
  unfold impl_newSearch.main
  simp only [env_lf, env_box, env_build, env_bin, env_makeMap]
  refine wmkM fun h1 m ma k1 lm => ?_
  refine wbd (bldS m) ?_
  refine wnew (l := fillC 1 1 m 0 1) (by rfl) fun h2 s o2 k2 ls => ?_
  dsimp only at k2 ls ⊢
  rw [fill_zero R C] at o2
  have ma2 := ma.keep k2
  have kk := k1.trans (k2.mono k1.1)
  have lss : h.length ≤ s := Nat.le_trans k1.1 ls
  have hRC : R * C < 4611686018427387904 := by omega
  repeat (first | with_reducible refine wmulN (by omega) ?_)
  refine loopW (fun m' st => ∃ (i : Nat) (h3 : PHeap), st = impl_newSearch.st0 (.int .i64 (R : Int)) (.int .i64 (C : Int)) (.ptr s 0) (.int .i64 ((R * C : Nat) : Int)) (.int .i64 (i : Int)) h3 ∧ i + m' = R * C ∧ At h3 s (fillC R C m i 1) ∧ MapAt h3 m [] ∧ Keep h.length h h3) ?_ lf (R * C) _ (by omega) ⟨0, h2, rfl, by omega, o2, ma2, kk⟩
  rintro n1 m1 st ⟨i, h3, rfl, him, o3, ma3, k3⟩ next
  rw [impl_newSearch.body0_eq]
  unfold impl_newSearch.body0
  simp only [env_C, env_store, env_ptr, env_bin, env_fieldAddr, env_indexAddr]
  cases m1 with
  | succ m1 =>
    have hi : i < 9 := by omega
    have hsl := shl_lt hi
    have hnv : wideN R C (1 <<< i) = nearV R C i := by unfold nearV; rw [if_pos (by omega)]
    obtain ⟨h4, e4, k4⟩ := withNear_calls g lf b1 b2 b3 b4 h9 hsl n (by omega) (by omega) (ht.keep k3)
    have o4 := o3.keep k4
    rw [hnv] at e4
    repeat (first | with_reducible refine wT ?_ | with_reducible refine wptr ?_ | with_reducible refine wbd (by assumption) ?_ | (with_reducible refine wbd (fs0 _) ?_) | (with_reducible refine wia9 hi ?_) | with_reducible refine wshl (by omega) ?_ | with_reducible refine wlssT (by omega) ?_ | dsimp only)
    refine wst1 o4 (by rw [fillC_length]; omega) fun h5 o5 k5 => ?_
    rw [fill_near hi] at o5
    have ma5 := (ma3.keep k4).kb k5 (o4.ne (ma3.keep k4)).symm
    repeat (first | with_reducible refine wadd1 (by omega) ?_)
    exact next _ _ (Nat.lt_succ_self m1) ⟨i + 1, h5, rfl, by omega, o5, ma5, (k3.trans (k4.mono k3.1)).kbs (Nat.le_refl _) k5 lss⟩
  | zero =>
    have hiR : i = R * C := by omega
    subst hiR
    repeat (first | with_reducible refine wF ?_ | with_reducible refine wlssF (by omega) ?_ | rw [kLoop_exit] | rw [impl_newSearch.after0_se0_0_1_5_13_14_15] | simp only [env_C, env_g, env_lf, env_pick, env_alloc, env_box, env_build, env_buildSlice, env_load, env_store, env_ptr, env_bin, env_un, env_conv, env_make, env_slice, env_fieldAddr, env_field, env_indexAddr, env_index, env_extract, env_len, env_append, env_max, env_min, env_makeMap, env_lookup, env_update])
    refine loopW (fun m' st => ∃ (P : Nat) (h4 : PHeap), st = impl_newSearch.st1 (.int .i64 (R : Int)) (.int .i64 (C : Int)) (.ptr s 0) (.int .i64 (P : Int)) h4 ∧ P + m' = 3 ∧ 1 ≤ P ∧ At h4 s (fillC R C m (R * C) P) ∧ MapAt h4 m [] ∧ Keep h.length h h4) ?_ lf 2 _ (by omega) ⟨1, h3, rfl, rfl, by decide, o3, ma3, k3⟩
    rintro n2 m2 st ⟨P, h4, rfl, hPm, hP1, o4, ma4, k4⟩ next2
    have hP : P = 1 ∨ P = 2 ∨ P = 3 := by omega
    have e1 := fun h => sidesOf_W g lf hB (P := 1) (.inl rfl) n (by omega) hlf h
    have e2 := fun h => sidesOf_W g lf hB (P := 2) (.inr rfl) n (by omega) hlf h
    rw [impl_newSearch.body1_eq]
    unfold impl_newSearch.body1
    simp only [env_C, env_store, env_ptr, env_bin, env_fieldAddr, env_indexAddr, env_extract]
    rcases hP with rfl | rfl | rfl
    · have e1' := e1 h4
      repeat (first | with_reducible refine wT ?_ | with_reducible refine wx0 ?_ | with_reducible refine wx1 ?_ | with_reducible refine wptr ?_ | with_reducible refine wbd (by assumption) ?_ | (with_reducible refine wbd (fs1 _) ?_) | (with_reducible refine wbd (fs2 _) ?_) | (with_reducible refine wia3 (by omega) ?_) | with_reducible refine wleqT (by omega) ?_ | dsimp only)
      refine wst1 o4 (by rw [fillC_length]; decide) fun h5 o5 k5 => ?_
      repeat (first | (with_reducible refine wia3 (by omega) ?_))
      refine wst1 o5 (by rw [List.length_set, fillC_length]; decide) fun h6 o6 k6 => ?_
      rw [fill_one] at o6
      repeat (first | with_reducible refine wadd1 (by omega) ?_)
      exact next2 _ _ (show 1 < m2 by omega) ⟨2, h6, rfl, rfl, by decide, o6, (ma4.kb k5 (o4.ne ma4).symm).kb k6 (o4.ne ma4).symm, (k4.kbs (Nat.le_refl _) k5 lss).kbs (Nat.le_refl _) k6 lss⟩
    · have e2' := e2 h4
      repeat (first | with_reducible refine wT ?_ | with_reducible refine wx0 ?_ | with_reducible refine wx1 ?_ | with_reducible refine wptr ?_ | with_reducible refine wbd (by assumption) ?_ | (with_reducible refine wbd (fs1 _) ?_) | (with_reducible refine wbd (fs2 _) ?_) | (with_reducible refine wia3 (by omega) ?_) | with_reducible refine wleqT (by omega) ?_ | dsimp only)
      refine wst1 o4 (by rw [fillC_length]; decide) fun h5 o5 k5 => ?_
      repeat (first | (with_reducible refine wia3 (by omega) ?_))
      refine wst1 o5 (by rw [List.length_set, fillC_length]; decide) fun h6 o6 k6 => ?_
      rw [fill_two] at o6
      repeat (first | with_reducible refine wadd1 (by omega) ?_)
      exact next2 _ _ (show 0 < m2 by omega) ⟨3, h6, rfl, rfl, by decide, o6, (ma4.kb k5 (o4.ne ma4).symm).kb k6 (o4.ne ma4).symm, (k4.kbs (Nat.le_refl _) k5 lss).kbs (Nat.le_refl _) k6 lss⟩
    · repeat (first | with_reducible refine wF ?_ | with_reducible refine wrP ?_ | with_reducible refine wleqF (by omega) ?_ | rw [kLoop_exit] | rw [impl_newSearch.after1_se2_0_1_5_7_29])
      rw [fill_done] at o4
      exact W.ret ⟨s, m, rfl, ⟨o4, [], ma4, fun p hp => by cases hp⟩, k4, lss, Nat.le_trans (Nat.le_refl _) lm⟩

/-! ### where it begins -/
theorem bldSt (t : Nat) : buildP Tryd.prog 58 [(1, .int .i64 (t : Int))] = some (stP 0 0 0 t) := by kernel_rfl
theorem standingOf_W {xs : List Int} {p : PV} {h : PHeap} (hp : IntSl .i64 h p xs) (hl : xs.length ≤ 20) (t : Nat) (N : Nat) (hN : 2 ≤ N) (hlf : 1000 < lf) :
    W (CL g lf N fn_impl_standingOf [p, .int .i64 (t : Int)] h) fun v h' => v = stP (setL xs 0) (setL xs 1) (setL xs 2) t ∧ Keep h.length h h' := by
  obtain ⟨n, rfl⟩ : ∃ n, N = n + 1 := ⟨N - 1, by omega⟩
  rw [impl_standingOf.call_eq]
  unfold impl_standingOf.main
  simp only [env_lf, env_alloc, env_build, env_store]
  refine walS fun h1 id1 o1 k1 l1 => ?_
  refine wbd (bldSt t) ?_
  dsimp only
  refine walS fun h2 id2 o2 k2 l2 => ?_
  dsimp only
  have o1' := o1.keep k2
  have hne : id1 ≠ id2 := by have := o1.lt; omega
  refine wstS o2 fun h3 o3 k3 => ?_
  have o13 := o1'.kb k3 hne
  have kk : Keep h.length h h3 := (k1.trans (k2.mono k1.1)).kbs (Nat.le_refl _) k3 (Nat.le_trans k1.1 l2)
  have ll2 : h.length ≤ id2 := Nat.le_trans k1.1 l2
  refine loopW (fun m' st => ∃ (P u v w : Nat) (h4 : PHeap), st = impl_standingOf.st0 p (.ptr id1 0) (.ptr id2 0) (.int .i64 (P : Int)) h4 ∧ P + m' = 3 ∧ At h4 id2 (stC u v w t) ∧ At h4 id1 (stC 0 0 0 0) ∧ Keep h.length h h4 ∧ (1 ≤ P → u = setL xs 0) ∧ (2 ≤ P → v = setL xs 1) ∧ (3 ≤ P → w = setL xs 2)) ?_ lf 3 _ (by omega) ⟨0, 0, 0, 0, h3, rfl, rfl, o3, o13, kk, by omega, by omega, by omega⟩
  rintro n1 m1 st ⟨P, u, v, w, h4, rfl, hPm, o4, o14, k4, hu, hv, hw⟩ next
  have hP : P = 0 ∨ P = 1 ∨ P = 2 ∨ P = 3 := by omega
  have hp4 := hp.keep k4
  have e0 := setOf_W g lf ((0 : Nat) : Int) hp4 hl n (by omega) hlf
  have e1 := setOf_W g lf ((1 : Nat) : Int) hp4 hl n (by omega) hlf
  have e2 := setOf_W g lf ((2 : Nat) : Int) hp4 hl n (by omega) hlf
  rw [impl_standingOf.body0_eq]
  unfold impl_standingOf.body0
  simp only [env_C, env_store, env_bin, env_fieldAddr, env_indexAddr]
  rcases hP with rfl | rfl | rfl | rfl
  · repeat (first | with_reducible refine wT ?_ | with_reducible refine wbd (by assumption) ?_ | (with_reducible refine wbd (fSt0 _) ?_) | (with_reducible refine wia3 (by omega) ?_) | with_reducible refine wlssT (by omega) ?_ | dsimp only)
    refine wst1 o4 (show 0 + 0 < 4 by decide) fun h5 o5 k5 => ?_
    repeat (first | with_reducible refine wadd1 (by omega) ?_)
    exact next _ _ (show 2 < m1 by omega) ⟨1, setL xs 0, v, w, h5, rfl, rfl, o5, o14.kb k5 hne, k4.kbs (Nat.le_refl _) k5 ll2, fun _ => rfl, by omega, by omega⟩
  · repeat (first | with_reducible refine wT ?_ | with_reducible refine wbd (by assumption) ?_ | (with_reducible refine wbd (fSt0 _) ?_) | (with_reducible refine wia3 (by omega) ?_) | with_reducible refine wlssT (by omega) ?_ | dsimp only)
    refine wst1 o4 (show 0 + 1 < 4 by decide) fun h5 o5 k5 => ?_
    repeat (first | with_reducible refine wadd1 (by omega) ?_)
    exact next _ _ (show 1 < m1 by omega) ⟨2, u, setL xs 1, w, h5, rfl, rfl, o5, o14.kb k5 hne, k4.kbs (Nat.le_refl _) k5 ll2, fun _ => hu (by decide), fun _ => rfl, by omega⟩
  · repeat (first | with_reducible refine wT ?_ | with_reducible refine wbd (by assumption) ?_ | (with_reducible refine wbd (fSt0 _) ?_) | (with_reducible refine wia3 (by omega) ?_) | with_reducible refine wlssT (by omega) ?_ | dsimp only)
    refine wst1 o4 (show 0 + 2 < 4 by decide) fun h5 o5 k5 => ?_
    repeat (first | with_reducible refine wadd1 (by omega) ?_)
    exact next _ _ (show 0 < m1 by omega) ⟨3, u, v, setL xs 2, h5, rfl, rfl, o5, o14.kb k5 hne, k4.kbs (Nat.le_refl _) k5 ll2, fun _ => hu (by decide), fun _ => hv (by decide), fun _ => rfl⟩
  · repeat (first | with_reducible refine wF ?_ | (with_reducible refine wbd (ldS (by assumption)) ?_) | with_reducible refine wlssF (by omega) ?_ | rw [kLoop_exit] | rw [impl_standingOf.after0_se0_0_4_5_9_10] | simp only [env_C, env_g, env_lf, env_pick, env_alloc, env_box, env_build, env_buildSlice, env_load, env_store, env_ptr, env_bin, env_un, env_conv, env_make, env_slice, env_fieldAddr, env_field, env_indexAddr, env_index, env_extract, env_len, env_append, env_max, env_min, env_makeMap, env_lookup, env_update])
    refine wstS o14 fun h5 o5 k5 => ?_
    repeat (first | (with_reducible refine wbd (ldS (by assumption)) ?_))
    exact W.ret ⟨by rw [hu (by decide), hv (by decide), hw (by decide)], k4.kbs (Nat.le_refl _) k5 l1⟩

theorem stands_of {R C T : Nat} {xs : List Int} (hS : Sides (R : Int) (C : Int) R C xs) (hT : T = 1 ∨ T = 2) : Stands R C (setL xs 0) (setL xs 1) (setL xs 2) T := by
  refine ⟨pos_sets hS, set_lt9 hS 0, fun k => ?_, hT⟩
  rw [setL_bit]
  constructor
  · intro hk
    have hkl := set_in hS (setL_bit.2 hk)
    exact ⟨hkl, (free_bit hS hkl).2 hk⟩
  · rintro ⟨h1, h2⟩; exact (free_bit hS h1).1 h2

end Go.Proofs.YtmhflbomploidaaDoor

/- The program's chapter 3: MoveOk, Played, WinnerOf, WinningCells and LinePlayed compute what the model's do. -/
set_option maxRecDepth 20000
namespace Go.Proofs.YtmhflbomploidaaDoor
open Go Go.Ip G

variable (g : Nat → PV) (lf n : Nat)

/-! ### moves -/
/-! ### who wins -/
theorem winnerOk (hbig : Big g) (hlf : 1000 < lf) : WinnerOk g lf := by
  intro N hN r c t xs p h ht hp hl hf
  obtain ⟨n, rfl⟩ : ∃ n, N = n + 1 := ⟨N - 1, by omega⟩
  have hpos := positionOk_N g lf n (by omega) r c hp (by omega) hf
  have hplay := playerOk_W g lf n (by omega) h t
  have : W (CL g lf (n + 1) fn_impl_WinnerOf [.int .i64 r, .int .i64 c, p, .int .i64 t] h) fun v h' => v = .int .i64 (winL r c xs t) ∧ Keep h.length h h' := by
    rw [impl_WinnerOf.call_eq]
    unfold impl_WinnerOf.main
    simp only [env_C, env_pick, env_un]
    cases hb : posB r c xs with
    | false =>
      rw [hb] at hpos
      repeat (first | with_reducible refine wT ?_ | with_reducible refine wg0 rfl ?_ | with_reducible refine wpT ?_ | with_reducible refine wnF ?_ | with_reducible refine wsm ?_ | with_reducible refine wrI ?_ | with_reducible refine wbd (by assumption) ?_ | dsimp only)
      exact W.ret ⟨by rw [winL_none (.inl hb)], Keep.refl _ _⟩
    | true =>
      rw [hb] at hpos
      cases hpl : playerB t with
      | false =>
        rw [hpl] at hplay
        repeat (first | with_reducible refine wT ?_ | with_reducible refine wg1 rfl ?_ | with_reducible refine wpF ?_ | with_reducible refine wnT ?_ | with_reducible refine wnF ?_ | with_reducible refine wpv ?_ | with_reducible refine wsm ?_ | with_reducible refine wrI ?_ | with_reducible refine wbd (by assumption) ?_ | dsimp only)
        refine W.ret ⟨?_, Keep.refl _ _⟩
        unfold winL; rw [hpl, Bool.and_false]; rfl
      | true =>
        rw [hpl] at hplay
        obtain ⟨R, C, hS⟩ := sides_of hb
        obtain ⟨T, rfl, hT⟩ := player_of hpl
        have hB := board_of_sides hS
        obtain ⟨rfl, rfl, _, _, _, _, h9, hlen, _⟩ := id hS
        repeat (first | with_reducible refine wF ?_ | with_reducible refine wg1 rfl ?_ | with_reducible refine wpF ?_ | with_reducible refine wnT ?_ | with_reducible refine wpv ?_ | with_reducible refine wsm ?_ | with_reducible refine wbd (by assumption) ?_ | dsimp only)
        refine wcall (newSearch_W g lf hB n (by omega) hlf ht.1) fun v h1 ⟨s, m, hv, hs, k1, l1, l2⟩ => ?_
        subst hv
        repeat (first | dsimp only)
        refine wcall (standingOf_W g lf (hp.keep k1) (by omega) T n (by omega) hlf) fun v h2 ⟨hv, k2⟩ => ?_
        subst hv
        repeat (first | dsimp only)
        refine wcall (sWinner_W g lf hB hbig hlf 9 _ _ _ _ n h2 (Nat.le_trans (fr_le _ _ _) h9) (stands_of hS hT) (by omega) (hs.keep k2) ((ht.2.keep k1).keep k2)) fun v h3 ⟨hv, hs3, k3⟩ => ?_
        subst hv
        repeat (first | with_reducible refine wrI ?_ | dsimp only)
        exact W.ret ⟨by rw [winL_eq hb hT], (k1.trans (k2.mono k1.1)).kbs (Nat.le_refl _) k3 l2⟩
  obtain ⟨_, h', e, rfl, k⟩ := this
  exact ⟨h', e, k⟩

theorem who_zero {R C : Nat} {xs : List Int} (hb : posB (R : Int) (C : Int) xs = true) : whoN R C (setL xs 1) (setL xs 2) = 0 ↔ joinsL (R : Int) (C : Int) xs 1 = false ∧ joinsL (R : Int) (C : Int) xs 2 = false := by
  rw [joins_one hb, joins_two hb]
  unfold whoN
  cases joinsN R C 1 (setL xs 1) <;> cases joinsN R C 2 (setL xs 2) <;> simp

/-- The winning cells, out of the set that the search finds. -/
theorem winCells_list {R C T S : Nat} {xs : List Int} (hb : posB (R : Int) (C : Int) xs = true) (hS : Sides (R : Int) (C : Int) R C xs) (hT : T = 1 ∨ T = 2)
    (hSb : ∀ k, S.testBit k = true ↔ whoN R C (setL xs 1) (setL xs 2) = 0 ∧ (setL xs 0).testBit k = true ∧ winN R C (putA T k (setL xs 1)) (putB T k (setL xs 2)) (3 - T) = T) :
    winCellsL (R : Int) (C : Int) xs (T : Int) = listN S := by
  have hx9 : xs.length ≤ 9 := by have := hS.2.2.2.2.2.2.2.1; have := hS.2.2.2.2.2.2.1; omega
  have hT' : 3 - T = 1 ∨ 3 - T = 2 := by omega
  have e3 : (3 : Int) - (T : Int) = ((3 - T : Nat) : Int) := by omega
  rw [listN_filter]
  unfold winCellsL
  congr 1
  have h9 : List.range 9 = List.range xs.length ++ (List.range' xs.length (9 - xs.length)) := by
    rw [List.range_eq_range', List.range_eq_range', show 9 = xs.length + (9 - xs.length) by omega, ← List.range'_append_1]; simp
  rw [h9, List.filter_append]
  have hnil : (List.range' xs.length (9 - xs.length)).filter (fun k => S.testBit k) = [] := by
    rw [List.filter_eq_nil_iff]
    intro k hk
    rw [List.mem_range'_1] at hk
    intro h
    have := ((hSb k).1 h).2.1
    have := set_in hS this
    have := hS.2.2.2.2.2.2.2.1
    omega
  rw [hnil, List.append_nil]
  apply List.filter_congr
  intro k hk
  rw [Bool.eq_iff_iff, winsB_iff, moveL_iff, hSb, who_zero hb, setL_bit]
  constructor
  · rintro ⟨⟨_, _, h3, h4, h5⟩, h6⟩
    rw [e3, winL_set hb hT hT' h3] at h6
    exact ⟨⟨h4, h5⟩, h3, by omega⟩
  · rintro ⟨⟨h4, h5⟩, h3, h6⟩
    refine ⟨⟨hb, playerB_of hT, h3, h4, h5⟩, ?_⟩
    rw [e3, winL_set hb hT hT' h3]; omega

theorem winCellsOk (hbig : Big g) (hlf : 1000 < lf) : WinCellsOk g lf := by
  intro N hN r c pl xs p h ht hp hl hf
  obtain ⟨n, rfl⟩ : ∃ n, N = n + 1 := ⟨N - 1, by omega⟩
  have hpos := positionOk_N g lf n (by omega) r c hp (by omega) hf
  have hplay := playerOk_W g lf n (by omega) h pl
  suffices this : W (CL g lf (n + 1) fn_impl_WinningCells [.int .i64 r, .int .i64 c, p, .int .i64 pl] h) fun q h' => OwnSl h.length h' q (winCellsL r c xs pl) ∧ Keep h.length h h' by
    obtain ⟨q, h', e, o, k⟩ := this
    exact ⟨q, h', e, o, k⟩
  rw [impl_WinningCells.call_eq]
  unfold impl_WinningCells.main
  simp only [env_C, env_pick, env_un]
  cases hb : posB r c xs with
  | false =>
    rw [hb] at hpos
    rw [winCellsL_none (.inl hb)]
    repeat (first | with_reducible refine wT ?_ | with_reducible refine wg0 rfl ?_ | with_reducible refine wpT ?_ | with_reducible refine wnF ?_ | with_reducible refine wsm ?_ | with_reducible refine wrN ?_ | with_reducible refine wbd (by assumption) ?_ | dsimp only)
    exact W.ret ⟨OwnSl.nil _ _, Keep.refl _ _⟩
  | true =>
    rw [hb] at hpos
    cases hpl : playerB pl with
    | false =>
      rw [hpl] at hplay
      have : winCellsL r c xs pl = [] := by
        unfold winCellsL
        rw [List.filter_eq_nil_iff.2, List.map_nil]
        intro k _ hk
        rw [winsB_iff, moveL_iff, hpl] at hk
        exact absurd hk.1.2.1 (by decide)
      rw [this]
      repeat (first | with_reducible refine wT ?_ | with_reducible refine wg1 rfl ?_ | with_reducible refine wpF ?_ | with_reducible refine wnT ?_ | with_reducible refine wnF ?_ | with_reducible refine wpv ?_ | with_reducible refine wsm ?_ | with_reducible refine wrN ?_ | with_reducible refine wbd (by assumption) ?_ | dsimp only)
      exact W.ret ⟨OwnSl.nil _ _, Keep.refl _ _⟩
    | true =>
      rw [hpl] at hplay
      obtain ⟨R, C, hS⟩ := sides_of hb
      obtain ⟨T, rfl, hT⟩ := player_of hpl
      have hB := board_of_sides hS
      obtain ⟨rfl, rfl, _, _, _, _, h9, hlen, _⟩ := id hS
      repeat (first | with_reducible refine wF ?_ | with_reducible refine wg1 rfl ?_ | with_reducible refine wpF ?_ | with_reducible refine wnT ?_ | with_reducible refine wpv ?_ | with_reducible refine wsm ?_ | with_reducible refine wbd (by assumption) ?_ | dsimp only)
      refine wcall (newSearch_W g lf hB n (by omega) hlf ht.1) fun v h1 ⟨s, m, hv, hs, k1, l1, l2⟩ => ?_
      subst hv
      repeat (first | dsimp only)
      refine wcall (standingOf_W g lf (hp.keep k1) (by omega) T n (by omega) hlf) fun v h2 ⟨hv, k2⟩ => ?_
      subst hv
      repeat (first | dsimp only)
      refine wcall (sWinning_W g lf hB hbig hlf (stands_of hS hT) n (by omega) (hs.keep k2) ((ht.2.keep k1).keep k2)) fun v h3 ⟨S, hv, hS9, hSb, hs3, k3⟩ => ?_
      subst hv
      have kk := (k1.trans (k2.mono k1.1)).kbs (Nat.le_refl _) k3 l2
      repeat (first | dsimp only)
      refine wcall (cellsIn_W g lf hS9 n (by omega) hlf h3) fun q h4 ⟨o4, k4⟩ => ?_
      rw [winCells_list hb hS hT hSb]
      repeat (first | with_reducible refine wresO (by assumption) ?_ | dsimp only)
      exact W.ret ⟨o4.mono kk.1, kk.trans (k4.mono kk.1)⟩

/-! ### a line -/
/-- A list of integers at an object of its own. -/
def SlAt (i : Nat) (h : PHeap) (p : PV) (ys : List Int) : Prop := (p = .nilsl ∧ ys = []) ∨ (p = .sl i 0 ys.length ∧ At h i (ys.map (.int .i64)))
theorem SlAt.keep {i : Nat} {h h' : PHeap} {p : PV} {ys : List Int} (s : SlAt i h p ys) (k : Keep h.length h h') : SlAt i h' p ys := by
  rcases s with s | ⟨a, b⟩
  · exact .inl s
  · exact .inr ⟨a, b.keep k⟩
theorem SlAt.kb {i m : Nat} {h h' : PHeap} {p : PV} {ys : List Int} (s : SlAt i h p ys) (k : KB m h h') (hn : i ≠ m) : SlAt i h' p ys := by
  rcases s with s | ⟨a, b⟩
  · exact .inl s
  · exact .inr ⟨a, b.kb k hn⟩
theorem SlAt.own {i n : Nat} {h : PHeap} {p : PV} {ys : List Int} (s : SlAt i h p ys) (hn : n ≤ i) : OwnSl n h p ys := by
  rcases s with s | ⟨a, b⟩
  · exact .inl s
  · exact .inr ⟨i, hn, a, b⟩
theorem Sch.kbo {R C s m i : Nat} {h h' : PHeap} (hs : Sch R C h s m) (k : KB i h h') (h1 : s ≠ i) (h2 : m ≠ i) : Sch R C h' s m := by
  obtain ⟨a, es, b, c⟩ := hs; exact ⟨a.kb k h1, es, b.kb k h2, c⟩
end Go.Proofs.YtmhflbomploidaaDoor

/- The program's chapter 5: all fillings of the free cells one after another, those that are won, those that a stone decides, and the cells that do not matter. -/
set_option maxRecDepth 20000
namespace Go.Proofs.YtmhflbomploidaaDoor
open Go Go.Ip G

section
variable {Q : PV → PHeap → Prop} {f : PV → Res} {h : PHeap}
theorem wout {F : Int} (hf : W (f (.int .i64 (outI F))) Q) : W ((unP .xor (.int .i64 F)).bind f) Q := hf
theorem worI {a b : Int} (hf : W (f (.int .i64 (orI a b))) Q) : W ((binP Tryd.prog .or 3 (.int .i64 a) (.int .i64 b)).bind f) Q := wbd (by simp only [binP, binI, if_true, orI]) hf
theorem wandI {a b : Int} (hf : W (f (.int .i64 (andI a b))) Q) : W ((binP Tryd.prog .and 3 (.int .i64 a) (.int .i64 b)).bind f) Q := wbd (by simp only [binP, binI, if_true, andI]) hf
theorem waddW {a b : Int} (hf : W (f (.int .i64 (IntKind.i64.wrap (a + b)))) Q) : W ((binP Tryd.prog .add 3 (.int .i64 a) (.int .i64 b)).bind f) Q := wbd (by rw [bin_add]) hf
/-- A list of one number. -/
theorem wone {F : PV × PHeap → Res} {x : Int} (hf : ∀ p h', OwnSl h.length h' p [x] → Keep h.length h h' → W (F (p, h')) Q) : W ((buildSliceP Tryd.prog 23 1 [(0, .int .i64 x)] h).bind F) Q := by
  have hb : buildSliceP Tryd.prog 23 1 [(0, .int .i64 x)] h = some (.sl h.length 0 1, h ++ [.own 1 [.int .i64 x]]) := by
    simp [buildSliceP, tyElem, tySize, tyZero, repeatCells, fillP, PV.cells, setCells]
  exact wbd hb (hf _ _ (.inr ⟨h.length, Nat.le_refl _, rfl, by simp⟩) (Keep.append _ _ _ (Nat.le_refl _)))
end

theorem cellsN_nine (S : Nat) : (cellsN S).length ≤ 9 := by
  unfold cellsN
  have := List.length_filter_le S.testBit (List.range 9)
  rwa [List.length_range] at this
theorem partsN_most (S : Nat) : (partsN (cellsN S)).length ≤ 512 := by
  rw [partsN_length]
  exact Nat.pow_le_pow_right (by decide) (cellsN_nine S)

variable (g : Nat → PV) (lf n : Nat)

theorem partsOf_W {F : Nat} (hF : F < 2 ^ 9) (N : Nat) (hN : 1 ≤ N) (hlf : 1000 < lf) (h : PHeap) :
    W (CL g lf N fn_impl_partsOf [.int .i64 (F : Int)] h) fun q h' => OwnSl h.length h' q ((partsN (cellsN F)).map fun x : Nat => (x : Int)) ∧ Keep h.length h h' := by
  obtain ⟨n, rfl⟩ : ∃ n, N = n + 1 := ⟨N - 1, by omega⟩
  obtain ⟨l, hl, hc⟩ := chain_of hF
  have hmost := partsN_most F
  have hll : l.length < 512 := by rw [hl, List.length_cons] at hmost; omega
  rw [impl_partsOf.call_eq]
  unfold impl_partsOf.main
  simp only [env_lf, env_buildSlice]
  refine wone fun q1 h1 o1 k1 => ?_
  refine loopW (fun m s => ∃ (p : Nat) (ys l : List Nat) (q : PV) (h2 : PHeap), s = impl_partsOf.st0 (.int .i64 (F : Int)) q (.int .i64 (p : Int)) h2 ∧ m = l.length ∧ ys ++ l = partsN (cellsN F) ∧ chainB F p l = true ∧ OwnSl h.length h2 q (ys.map fun x : Nat => (x : Int)) ∧ Keep h.length h h2) ?_ lf l.length _ (by omega)
    ⟨0, [0], l, q1, h1, rfl, rfl, by rw [hl]; rfl, hc, o1, k1⟩
  rintro n1 m s ⟨p, ys, l, q, h2, rfl, rfl, hys, hc, o2, k2⟩ next
  rw [impl_partsOf.body0_eq]
  unfold impl_partsOf.body0
  simp only [env_buildSlice, env_bin, env_un, env_append]
  cases l with
  | nil =>
    rw [chainB, beq_iff_eq] at hc
    subst hc
    rw [List.append_nil] at hys
    repeat (first | with_reducible refine wF ?_ | with_reducible refine wneqF (by omega) ?_ | with_reducible refine wresO (by assumption) ?_ | rw [kLoop_exit] | rw [impl_partsOf.after0_se0_0_3_4_8])
    exact W.ret ⟨hys ▸ o2, k2⟩
  | cons x l =>
    rw [chainB, Bool.and_eq_true, Bool.and_eq_true, bne_iff_ne, beq_iff_eq] at hc
    obtain ⟨⟨hne, hnx⟩, hc⟩ := hc
    have hyl : ys.length ≤ 512 := by rw [← hys, List.length_append] at hmost; omega
    repeat (first | with_reducible refine wT ?_ | with_reducible refine wneqT (by omega) ?_)
    refine wout ?_
    refine worI ?_
    refine waddW ?_
    refine wandI ?_
    rw [show andI (IntKind.i64.wrap (orI (p : Int) (outI (F : Int)) + 1)) (F : Int) = (x : Int) from hnx]
    refine wap o2 k2.1 (by rw [List.length_map]; omega) fun p' h3 o3 k3 => ?_
    repeat (first | dsimp only)
    exact next _ _ (by rw [List.length_cons]; omega) ⟨x, ys ++ [x], l, p', h3, rfl, rfl, by rw [List.append_assoc]; exact hys, hc, by rw [List.map_append]; exact o3, k2.trans k3⟩

/-! ### fillings that are won -/
theorem part_lt {R C : Nat} {r c : Int} {xs : List Int} {x S : Nat} (hS : Sides r c R C xs) (hSF : ∀ j, S.testBit j = true → (setL xs 0).testBit j = true) (hx : x ∈ partsN (cellsN S)) : x < 2 ^ (R * C) :=
  partsN_le (fun k hk => set_in hS (w := 0) (hSF k (by unfold cellsN at hk; exact (List.mem_filter.1 hk).2))) hx

/-! ### fillings that a stone decides -/
/-! ### cells that do not matter -/
end Go.Proofs.YtmhflbomploidaaDoor

/- The library's stable sort, whole; and all parts of a set by size. -/
set_option maxRecDepth 20000
namespace Go.Proofs.YtmhflbomploidaaDoor
open Go Go.Ip G

section
variable (g : Nat → PV) (lf : Nat) {f : FuncId} {ok : Int → Prop} {kf cf : Int → Nat} (hcmp : CmpOk g lf f ok cf) (hlf : 1000 < lf)
include hcmp hlf

end

/-! ### how many cells a set has -/
theorem ones_all (g : Nat → PV) (lf n : Nat) (h : PHeap) : ((List.range 32).map fun a => (List.range 16).map fun b => bits_OnesCount64.main (env g lf n) (.int .u64 ((a * 16 + b : Nat) : Int)) h) = (List.range 32).map fun a => (List.range 16).map fun b => some (PV.int .i64 ((sizeN (a * 16 + b) : Nat) : Int), h) := by kernel_rfl
theorem ones_at (g : Nat → PV) (lf n : Nat) (h : PHeap) {x : Nat} (hx : x < 512) : bits_OnesCount64.main (env g lf n) (.int .u64 (x : Int)) h = some (.int .i64 ((sizeN x : Nat) : Int), h) := by
  have h1 := congrArg (fun l => (l[x / 16]?).bind fun r => r[x % 16]?) (ones_all g lf n h)
  simp only [List.getElem?_map, List.getElem?_range (show x / 16 < 32 by omega), List.getElem?_range (show x % 16 < 16 by omega), Option.map_some, Option.bind_some, Option.some.injEq] at h1
  rw [show x / 16 * 16 + x % 16 = x by omega] at h1
  exact h1
theorem countIn_W (g : Nat → PV) (lf N : Nat) (hN : 3 ≤ N) (h : PHeap) {x : Nat} (hx : x < 512) : CL g lf N fn_impl_countIn [.int .i64 (x : Int)] h = some (.int .i64 ((sizeN x : Nat) : Int), h) := by
  obtain ⟨n, rfl⟩ : ∃ n, N = n + 3 := ⟨N - 3, by omega⟩
  have e64 : CL g lf (n + 1) fn_bits_OnesCount64 [.int .u64 (x : Int)] h = some (.int .i64 ((sizeN x : Nat) : Int), h) := by
    rw [bits_OnesCount64.call_eq]; exact ones_at g lf n h hx
  have e1 : CL g lf (n + 2) fn_bits_OnesCount [.int .u64 (x : Int)] h = some (.int .i64 ((sizeN x : Nat) : Int), h) := by
    rw [bits_OnesCount.call_eq]
    unfold bits_OnesCount.main
    simp only [env_C]
    rw [e64]
    rfl
  rw [impl_countIn.call_eq]
  unfold impl_countIn.main
  simp only [env_C, env_conv]
  rw [conv_iu, show IntKind.u64.wrap (x : Int) = (x : Int) from by show (x : Int) % 18446744073709551616 = (x : Int); omega]
  simp only [Option.bind_some]
  rw [e1]
  rfl

end Go.Proofs.YtmhflbomploidaaDoor

/- The program's chapter 6: sets that are enough, the least of them, bridges, and cells that must be taken. -/
set_option maxRecDepth 20000
namespace Go.Proofs.YtmhflbomploidaaDoor
open Go Go.Ip G

/-- What stands with stones of the other player on all free cells outside of a set. -/
theorem given_sets {xs : List Int} {P : Nat} (hP : P = 1 ∨ P = 2) (S : Nat) : setL (givenL xs (P : Int) S) 0 = setL xs 0 &&& S ∧ setL (givenL xs (P : Int) S) (P : Int) = setL xs (P : Int) ∧ setL (givenL xs (P : Int) S) (3 - (P : Int)) = setL xs (3 - (P : Int)) ||| minusN (setL xs 0) S := by
  refine ⟨Nat.eq_of_testBit_eq fun j => ?_, Nat.eq_of_testBit_eq fun j => ?_, Nat.eq_of_testBit_eq fun j => ?_⟩
  · rw [Bool.eq_iff_iff, setL_bit, given_free hP, Nat.testBit_and, Bool.and_eq_true, setL_bit]
  · rw [Bool.eq_iff_iff, setL_bit, given_own hP, setL_bit]
  · rw [Bool.eq_iff_iff, setL_bit, given_other hP, Nat.testBit_or, Bool.or_eq_true, minusN_bit, Bool.and_eq_true, setL_bit, setL_bit]
    cases S.testBit j <;> simp
theorem OwnSl.kbo {n m : Nat} {h h' : PHeap} {p : PV} {xs : List Int} (s : OwnSl n h p xs) (k : KB m h h') (hm : m < n) : OwnSl n h' p xs := by
  rcases s with s | ⟨id, h1, h2, h3⟩
  · exact .inl s
  · exact .inr ⟨id, h1, h2, by rw [k.2 id (List.getElem?_eq_some_iff.1 h3).1 (by omega)]; exact h3⟩
theorem KB.of {n m : Nat} {h h' : PHeap} (k : Keep n h h') (hn : h.length ≤ n) : KB m h h' := ⟨k.1, fun i hi _ => k.2 i (by omega)⟩

theorem wand1 {Q : PV → PHeap → Prop} {x : Nat} {f : PV → Res} (hx : x < 2 ^ 62) (hf : W (f (.int .i64 ((x &&& 1 : Nat) : Int))) Q) : W ((binP Tryd.prog .and 3 (.int .i64 (x : Int)) (.int .i64 1)).bind f) Q := wand hx (y := 1) (by decide) hf
theorem Tab.at {g : Nat → PV} {id : Nat} {l : List PV} {h h' : PHeap} (t : Tab g h) (a : At h id l) (k : KB id h h') : Tab g h' := by
  obtain ⟨i, e, ho⟩ := t
  exact ⟨i, e, by rw [k.2 i (List.getElem?_eq_some_iff.1 ho).1 (fun e => by subst e; unfold At at a; rw [ho] at a; cases a)]; exact ho⟩
theorem Tab64.at {g : Nat → PV} {id : Nat} {l : List PV} {h h' : PHeap} (t : Tab64 g h) (a : At h id l) (k : KB id h h') : Tab64 g h' := fun i e => by
  have ho := t i e
  rw [k.2 i (List.getElem?_eq_some_iff.1 ho).1 (fun e => by subst e; unfold At at a; rw [ho] at a; cases a)]; exact ho
theorem wmulZ {Q : PV → PHeap → Prop} {P : Program} {t : TypeId} {x y z : Nat} {f : PV → Res} (hz : z = x * y) (h : z < 4611686018427387904) (hf : W (f (.int .i64 (z : Int))) Q) : W ((binP P .mul t (.int .i64 (x : Int)) (.int .i64 (y : Int))).bind f) Q := by
  subst hz; exact wmulN h hf

variable (g : Nat → PV) (lf n : Nat)

theorem filled_W {xs : List Int} {P : Nat} (hP : P = 1 ∨ P = 2) (hx : ∀ w, setL xs w < 2 ^ 9) {S T : Nat} (hS9 : S < 2 ^ 9) (N : Nat) (hN : 1 ≤ N) (h : PHeap) :
    W (CL g lf N fn_impl_standing_filledOutside [stP (setL xs 0) (setL xs 1) (setL xs 2) T, .int .i64 (S : Int), .int .i64 ((3 - P : Nat) : Int)] h) fun v h' =>
      v = stP (setL (givenL xs (P : Int) S) 0) (setL (givenL xs (P : Int) S) 1) (setL (givenL xs (P : Int) S) 2) T ∧ Keep h.length h h' := by
  obtain ⟨n, rfl⟩ : ∃ n, N = n + 1 := ⟨N - 1, by omega⟩
  obtain ⟨e1, e2, e3⟩ := given_sets (xs := xs) hP S
  have hf := hx 0
  have ha := hx 1
  have hb := hx 2
  have hm : minusN (setL xs 0) S < 2 ^ 9 := minusN_lt hf
  obtain ⟨F, hF⟩ : ∃ F, F = setL xs 0 := ⟨_, rfl⟩
  obtain ⟨A, hA⟩ : ∃ A, A = setL xs 1 := ⟨_, rfl⟩
  obtain ⟨B, hB⟩ : ∃ B, B = setL xs 2 := ⟨_, rfl⟩
  rcases hP with rfl | rfl
  · rw [show ((3 : Int) - ((1 : Nat) : Int)) = 2 from rfl] at e3
    rw [show (((1 : Nat) : Int)) = (1 : Int) from rfl] at e1 e2 e3
    rw [show (((1 : Nat) : Int)) = (1 : Int) from rfl, e1, e2, e3]
    rw [← hF] at hf hm ⊢
    rw [← hA] at ha ⊢
    rw [← hB] at hb ⊢
    clear e1 e2 e3
    rw [impl_standing_filledOutside.call_eq]
    unfold impl_standing_filledOutside.main
    simp only [env_alloc, env_box, env_load, env_store, env_bin, env_fieldAddr, env_indexAddr]
    refine wboxS fun h1 id o1 k1 l1 => ?_
    dsimp only
    refine walS fun h2 id2 o2 k2 l2 => ?_
    have o1' := o1.keep k2
    have hne : id2 ≠ id := by have := o1.lt; omega
    have kk2 : Keep h.length h h2 := k1.trans (k2.mono k1.1)
    repeat (first | (with_reducible refine wbd (fSt0 _) ?_) | (with_reducible refine wia30 ?_) | (with_reducible refine wia3 (by omega) ?_) | (with_reducible refine wbd (ld1 (by assumption) rfl) ?_) | with_reducible refine wor (by omega) (by omega) ?_ | with_reducible refine wandNot (by omega) (by omega) ?_ | dsimp only)
    refine wst1 o1' (show 0 + 2 < 4 by decide) fun h3 o3 k3 => ?_
    have o3 : At h3 id (stC F A (B ||| minusN F S) T) := o3
    have o23 := o2.kb k3 hne
    repeat (first | (with_reducible refine wbd (fSt0 _) ?_) | (with_reducible refine wia30 ?_) | (with_reducible refine wbd (ld1 (by assumption) rfl) ?_) | with_reducible refine wand (by omega) (by omega) ?_)
    refine wst1 o3 (show 0 + 0 < 4 by decide) fun h4 o4 k4 => ?_
    have o4 : At h4 id (stC (F &&& S) A (B ||| minusN F S) T) := o4
    have o24 := o23.kb k4 hne
    repeat (first | (with_reducible refine wbd (ldS (by assumption)) ?_))
    refine wstS o24 fun h6 o6 k6 => ?_
    repeat (first | (with_reducible refine wbd (ldS (by assumption)) ?_))
    exact W.ret ⟨rfl, ((kk2.kbs (Nat.le_refl _) k3 l1).kbs (Nat.le_refl _) k4 l1).kbs (Nat.le_refl _) k6 (Nat.le_trans k1.1 l2)⟩
  · rw [show ((3 : Int) - ((2 : Nat) : Int)) = 1 from rfl] at e3
    rw [show (((2 : Nat) : Int)) = (2 : Int) from rfl] at e1 e2 e3
    rw [show (((2 : Nat) : Int)) = (2 : Int) from rfl, e1, e2, e3]
    rw [← hF] at hf hm ⊢
    rw [← hA] at ha ⊢
    rw [← hB] at hb ⊢
    clear e1 e2 e3
    rw [impl_standing_filledOutside.call_eq]
    unfold impl_standing_filledOutside.main
    simp only [env_alloc, env_box, env_load, env_store, env_bin, env_fieldAddr, env_indexAddr]
    refine wboxS fun h1 id o1 k1 l1 => ?_
    dsimp only
    refine walS fun h2 id2 o2 k2 l2 => ?_
    have o1' := o1.keep k2
    have hne : id2 ≠ id := by have := o1.lt; omega
    have kk2 : Keep h.length h h2 := k1.trans (k2.mono k1.1)
    repeat (first | (with_reducible refine wbd (fSt0 _) ?_) | (with_reducible refine wia30 ?_) | (with_reducible refine wia3 (by omega) ?_) | (with_reducible refine wbd (ld1 (by assumption) rfl) ?_) | with_reducible refine wor (by omega) (by omega) ?_ | with_reducible refine wandNot (by omega) (by omega) ?_ | dsimp only)
    refine wst1 o1' (show 0 + 1 < 4 by decide) fun h3 o3 k3 => ?_
    have o3 : At h3 id (stC F (A ||| minusN F S) B T) := o3
    have o23 := o2.kb k3 hne
    repeat (first | (with_reducible refine wbd (fSt0 _) ?_) | (with_reducible refine wia30 ?_) | (with_reducible refine wbd (ld1 (by assumption) rfl) ?_) | with_reducible refine wand (by omega) (by omega) ?_)
    refine wst1 o3 (show 0 + 0 < 4 by decide) fun h4 o4 k4 => ?_
    have o4 : At h4 id (stC (F &&& S) (A ||| minusN F S) B T) := o4
    have o24 := o23.kb k4 hne
    repeat (first | (with_reducible refine wbd (ldS (by assumption)) ?_))
    refine wstS o24 fun h6 o6 k6 => ?_
    repeat (first | (with_reducible refine wbd (ldS (by assumption)) ?_))
    exact W.ret ⟨rfl, ((kk2.kbs (Nat.le_refl _) k3 l1).kbs (Nat.le_refl _) k4 l1).kbs (Nat.le_refl _) k6 (Nat.le_trans k1.1 l2)⟩

theorem winsWith_W {R C P T s m S : Nat} {xs : List Int} (hb : posB (R : Int) (C : Int) xs = true) (hbig : Big g) (hlf : 1000 < lf) (hP : P = 1 ∨ P = 2) (hT : T = 1 ∨ T = 2) (hS9 : S < 2 ^ 9) (N : Nat) (hN : 28 ≤ N) {h : PHeap} (hs : Sch R C h s m) (ht : Tab64 g h) :
    W (CL g lf N fn_impl_search_winsWith [.ptr s 0, stP (setL xs 0) (setL xs 1) (setL xs 2) T, .int .i64 (P : Int), .int .i64 (S : Int)] h) fun v h' => v = .bool (decide (winL (R : Int) (C : Int) (givenL xs (P : Int) S) (T : Int) = (P : Int))) ∧ Sch R C h' s m ∧ KB m h h' := by
  obtain ⟨n, rfl⟩ : ∃ n, N = n + 1 := ⟨N - 1, by omega⟩
  have hS := sides_pos hb
  have hB := board_of_sides hS
  have hb' := given_pos hP S hb
  have hS' := sides_pos hb'
  have h9 := hB.2.2.2.2
  have ex : ∀ h, CL g lf n fn_impl_exchanged [.int .i64 (P : Int)] h = some (.int .i64 ((3 - P : Nat) : Int), h) := fun h => exchanged_W g lf n (by omega) h hP
  rw [impl_search_winsWith.call_eq]
  unfold impl_search_winsWith.main
  simp only [env_C, env_box, env_load, env_bin]
  refine wboxS fun h1 id o1 k1 l1 => ?_
  have ex1 := ex h1
  repeat (first | with_reducible refine wbd (by assumption) ?_ | (with_reducible refine wbd (ldS (by assumption)) ?_) | (with_reducible refine wck plainS ?_) | dsimp only)
  refine wcall (filled_W g lf hP (fun w => set_lt9 hS w) hS9 n (by omega) h1) fun v h2 ⟨hv, k2⟩ => ?_
  subst hv
  have o2 := o1.keep k2
  have hs2 := (hs.keep k1).keep k2
  repeat (first | (with_reducible refine wbd (ldS (by assumption)) ?_) | (with_reducible refine wck plainS ?_) | dsimp only)
  refine wcall (sWinner_W g lf hB hbig hlf 9 _ _ _ _ n h2 (Nat.le_trans (fr_le _ _ _) h9) (stands_of hS' hT) (by omega) hs2 ((ht.keep k1).keep k2)) fun v h3 ⟨hv, hs3, k3⟩ => ?_
  subst hv
  have hml := hs.lt
  have o3 := o2.kb k3 (by omega)
  have kk : KB m h h3 := (Keep.kb (k1.trans (k2.mono k1.1))).trans k3
  rw [winL_eq hb' hT]
  by_cases hw : ((winN R C (setL (givenL xs (P : Int) S) 1) (setL (givenL xs (P : Int) S) 2) T : Nat) : Int) = (P : Int)
  · rw [decide_eq_true hw]
    repeat (first | with_reducible refine wrB ?_ | (with_reducible refine wbd (ldS (by assumption)) ?_) | (with_reducible refine wck plainS ?_) | with_reducible refine weqlT (by omega) ?_ | dsimp only)
    exact W.ret ⟨rfl, hs3, kk⟩
  · rw [decide_eq_false hw]
    repeat (first | with_reducible refine wrB ?_ | (with_reducible refine wbd (ldS (by assumption)) ?_) | (with_reducible refine wck plainS ?_) | with_reducible refine weqlF (by omega) ?_ | dsimp only)
    exact W.ret ⟨rfl, hs3, kk⟩

/-- A set of cells of a board. -/
theorem setOk_W {R C : Nat} (hB : BoardOf R C) (N : Nat) (hN : 1 ≤ N) (h : PHeap) (S : Int) :
    CL g lf N fn_impl_setOk [.int .i64 (R : Int), .int .i64 (C : Int), .int .i64 S] h = some (.bool (decide (0 ≤ S ∧ S < ((2 ^ (R * C) : Nat) : Int))), h) := by
  obtain ⟨n, rfl⟩ : ∃ n, N = n + 1 := ⟨N - 1, by omega⟩
  obtain ⟨b1, b2, b3, b4, h9⟩ := id hB
  have : W (CL g lf (n + 1) fn_impl_setOk [.int .i64 (R : Int), .int .i64 (C : Int), .int .i64 S] h) fun v h' => v = .bool (decide (0 ≤ S ∧ S < ((2 ^ (R * C) : Nat) : Int))) ∧ h' = h := by
    rw [impl_setOk.call_eq]
    unfold impl_setOk.main
    simp only [env_pick, env_bin]
    by_cases h0 : 0 ≤ S
    · obtain ⟨z, hz⟩ : ∃ z, z = R * C := ⟨_, rfl⟩
      rw [← hz] at h9
      by_cases h1 : S < ((2 ^ z : Nat) : Int)
      · rw [← hz, decide_eq_true (⟨h0, h1⟩ : 0 ≤ S ∧ S < ((2 ^ z : Nat) : Int))]
        rw [← Nat.one_shiftLeft] at h1
        repeat (first | with_reducible refine wg1 rfl ?_ | with_reducible refine wpT ?_ | with_reducible refine wpv ?_ | with_reducible refine wsm ?_ | with_reducible refine wrB ?_ | (with_reducible refine wmulZ hz (by omega) ?_) | with_reducible refine wshl (by omega) ?_ | with_reducible refine wlssT (by omega) ?_ | with_reducible refine wgeqT (by omega) ?_ | dsimp only)
        exact W.ret ⟨rfl, rfl⟩
      · rw [← hz, decide_eq_false (fun hh : 0 ≤ S ∧ S < ((2 ^ z : Nat) : Int) => h1 hh.2)]
        rw [← Nat.one_shiftLeft] at h1
        repeat (first | with_reducible refine wg1 rfl ?_ | with_reducible refine wpT ?_ | with_reducible refine wpv ?_ | with_reducible refine wsm ?_ | with_reducible refine wrB ?_ | (with_reducible refine wmulZ hz (by omega) ?_) | with_reducible refine wshl (by omega) ?_ | with_reducible refine wlssF (by omega) ?_ | with_reducible refine wgeqT (by omega) ?_ | dsimp only)
        exact W.ret ⟨rfl, rfl⟩
    · rw [decide_eq_false (fun hh : 0 ≤ S ∧ S < ((2 ^ (R * C) : Nat) : Int) => h0 hh.1)]
      repeat (first | with_reducible refine wg0 rfl ?_ | with_reducible refine wpF ?_ | with_reducible refine wsm ?_ | with_reducible refine wrB ?_ | with_reducible refine wgeqF (by omega) ?_ | dsimp only)
      exact W.ret ⟨rfl, rfl⟩
  obtain ⟨_, _, e, rfl, rfl⟩ := this
  exact e

theorem setWins_W (hbig : Big g) (hlf : 1000 < lf) (N : Nat) (hN : 30 ≤ N) (r c pl S t : Int) {xs : List Int} {p : PV} {h : PHeap} (ht : TabOk g h) (hp : IntSl .i64 h p xs) (hl : xs.length ≤ 2 ^ 35) (hf : xs.length < lf) (htt : playerB pl = true → ∃ T : Nat, t = (T : Int) ∧ (T = 1 ∨ T = 2)) :
    W (CL g lf N fn_impl_setWins [.int .i64 r, .int .i64 c, p, .int .i64 pl, .int .i64 t, .int .i64 S] h) fun v h' => v = .bool (okL r c xs pl S && decide (winL r c (givenL xs pl S.toNat) t = pl)) ∧ Keep h.length h h' := by
  obtain ⟨n, rfl⟩ : ∃ n, N = n + 1 := ⟨N - 1, by omega⟩
  have hpos := positionOk_N g lf n (by omega) r c hp (by omega) hf
  have hplay := playerOk_W g lf n (by omega) h pl
  unfold okL
  rw [impl_setWins.call_eq]
  unfold impl_setWins.main
  simp only [env_C, env_pick, env_un]
  cases hb : posB r c xs with
  | false =>
    rw [hb] at hpos
    repeat (first | with_reducible refine wT ?_ | with_reducible refine wg0 rfl ?_ | with_reducible refine wpT ?_ | with_reducible refine wnF ?_ | with_reducible refine wsm ?_ | with_reducible refine wrB ?_ | with_reducible refine wbd (by assumption) ?_ | dsimp only)
    exact W.ret ⟨rfl, Keep.refl _ _⟩
  | true =>
    rw [hb] at hpos
    cases hpl : playerB pl with
    | false =>
      rw [hpl] at hplay
      repeat (first | with_reducible refine wT ?_ | with_reducible refine wg1 rfl ?_ | with_reducible refine wg0 rfl ?_ | with_reducible refine wpT ?_ | with_reducible refine wpF ?_ | with_reducible refine wnT ?_ | with_reducible refine wnF ?_ | with_reducible refine wpv ?_ | with_reducible refine wsm ?_ | with_reducible refine wrB ?_ | with_reducible refine wbd (by assumption) ?_ | dsimp only)
      exact W.ret ⟨rfl, Keep.refl _ _⟩
    | true =>
      rw [hpl] at hplay
      obtain ⟨T, rfl, hT⟩ := htt hpl
      obtain ⟨R, C, hS⟩ := sides_of hb
      obtain ⟨P, rfl, hP⟩ := player_of hpl
      have hB := board_of_sides hS
      obtain ⟨rfl, rfl, _, _, _, _, h9, hlen, _⟩ := id hS
      have hso := setOk_W g lf hB n (by omega) h S
      rw [hlen]
      cases hso2 : decide (0 ≤ S ∧ S < ((2 ^ (R * C) : Nat) : Int)) with
      | false =>
        rw [hso2] at hso
        repeat (first | with_reducible refine wT ?_ | with_reducible refine wg1 rfl ?_ | with_reducible refine wpF ?_ | with_reducible refine wnT ?_ | with_reducible refine wnF ?_ | with_reducible refine wpv ?_ | with_reducible refine wsm ?_ | with_reducible refine wrB ?_ | with_reducible refine wbd (by assumption) ?_ | dsimp only)
        exact W.ret ⟨rfl, Keep.refl _ _⟩
      | true =>
        rw [hso2] at hso
        have hsb := of_decide_eq_true hso2
        obtain ⟨Z, rfl⟩ := Int.eq_ofNat_of_zero_le hsb.1
        have h22 : 2 ^ (R * C) ≤ 2 ^ 9 := Nat.pow_le_pow_right (by decide) h9
        have hZ : Z < 2 ^ 9 := by have := hsb.2; omega
        repeat (first | with_reducible refine wF ?_ | with_reducible refine wg1 rfl ?_ | with_reducible refine wpF ?_ | with_reducible refine wnT ?_ | with_reducible refine wpv ?_ | with_reducible refine wsm ?_ | with_reducible refine wbd (by assumption) ?_ | dsimp only)
        refine wcall (newSearch_W g lf hB n (by omega) hlf ht.1) fun v h1 ⟨s, m, hv, hs, k1, l1, l2⟩ => ?_
        subst hv
        repeat (first | dsimp only)
        refine wcall (standingOf_W g lf (hp.keep k1) (by omega) T n (by omega) hlf) fun v h2 ⟨hv, k2⟩ => ?_
        subst hv
        repeat (first | dsimp only)
        refine wcall (winsWith_W g lf hb hbig hlf hP hT hZ n (by omega) (hs.keep k2) ((ht.2.keep k1).keep k2)) fun v h3 ⟨hv, hs3, k3⟩ => ?_
        subst hv
        repeat (first | with_reducible refine wrB ?_ | dsimp only)
        exact W.ret ⟨rfl, (k1.trans (k2.mono k1.1)).kbs (Nat.le_refl _) k3 l2⟩

theorem swapI_other {pl : Int} (h : playerB pl = true) : swapI pl = 3 - pl ∧ ∃ T : Nat, swapI pl = (T : Int) ∧ (T = 1 ∨ T = 2) := by
  obtain ⟨P, rfl, hP⟩ := player_of h
  rcases hP with rfl | rfl
  · exact ⟨rfl, 2, rfl, .inr rfl⟩
  · exact ⟨rfl, 1, rfl, .inl rfl⟩

theorem carrierOkOk (hbig : Big g) (hlf : 1000 < lf) : CarrierOkOk g lf := by
  intro N hN r c pl S xs p h ht hp hl hf
  obtain ⟨n, rfl⟩ : ∃ n, N = n + 1 := ⟨N - 1, by omega⟩
  have ex := exchanged_N g lf n (by omega) h pl
  have : W (CL g lf (n + 1) fn_impl_CarrierOk [.int .i64 r, .int .i64 c, p, .int .i64 pl, .int .i64 S] h) fun v h' => v = .bool (carrierL r c xs pl S) ∧ Keep h.length h h' := by
    rw [impl_CarrierOk.call_eq]
    unfold impl_CarrierOk.main
    simp only [env_C]
    repeat (first | with_reducible refine wbd (by assumption) ?_ | dsimp only)
    refine wcall (setWins_W g lf hbig hlf n (by omega) r c pl S (swapI pl) ht hp hl hf (fun hpl => (swapI_other hpl).2)) fun v h1 ⟨hv, k1⟩ => ?_
    subst hv
    repeat (first | with_reducible refine wrB ?_ | dsimp only)
    refine W.ret ⟨?_, k1⟩
    unfold carrierL
    cases ho : okL r c xs pl S with
    | false => rfl
    | true =>
      have hpl : playerB pl = true := by unfold okL at ho; simp only [Bool.and_eq_true] at ho; exact ho.1.2
      rw [(swapI_other hpl).1]
  obtain ⟨_, h', e, rfl, k⟩ := this
  exact ⟨h', e, k⟩
theorem threatOkOk (hbig : Big g) (hlf : 1000 < lf) : ThreatOkOk g lf := by
  intro N hN r c pl S xs p h ht hp hl hf
  obtain ⟨n, rfl⟩ : ∃ n, N = n + 1 := ⟨N - 1, by omega⟩
  have : W (CL g lf (n + 1) fn_impl_ThreatOk [.int .i64 r, .int .i64 c, p, .int .i64 pl, .int .i64 S] h) fun v h' => v = .bool (threatL r c xs pl S) ∧ Keep h.length h h' := by
    rw [impl_ThreatOk.call_eq]
    unfold impl_ThreatOk.main
    simp only [env_C]
    refine wcall (setWins_W g lf hbig hlf n (by omega) r c pl S pl ht hp hl hf (fun hpl => player_of hpl)) fun v h1 ⟨hv, k1⟩ => ?_
    subst hv
    repeat (first | with_reducible refine wrB ?_ | dsimp only)
    exact W.ret ⟨rfl, k1⟩
  obtain ⟨_, h', e, rfl, k⟩ := this
  exact ⟨h', e, k⟩

/-! ### the least sets -/
/-! ### cells that must be taken -/
theorem must_lt {ok : Nat → Bool} {l : List Nat} {all : Nat} (h : all < 2 ^ 9) (i : Nat) : mustF ok l i all < 2 ^ 9 := by
  refine Nat.lt_of_le_of_lt (sub_le fun j hj => (must_bit.1 hj).1) h
theorem mustOk (hbig : Big g) (hlf : 1000 < lf) : MustOk g lf := by
  intro N hN r c pl xs p h ht hp hl hf
  obtain ⟨n, rfl⟩ : ∃ n, N = n + 1 := ⟨N - 1, by omega⟩
  have hpos := positionOk_N g lf n (by omega) r c hp (by omega) hf
  have hplay := playerOk_W g lf n (by omega) h pl
  suffices this : W (CL g lf (n + 1) fn_impl_MustCells [.int .i64 r, .int .i64 c, p, .int .i64 pl] h) fun q h' => OwnSl h.length h' q (mustL r c xs pl) ∧ Keep h.length h h' by
    obtain ⟨q, h', e, o, k⟩ := this
    exact ⟨q, h', e, o, k⟩
  unfold mustL
  rw [impl_MustCells.call_eq]
  unfold impl_MustCells.main
  simp only [env_C, env_lf, env_pick, env_alloc, env_load, env_store, env_bin, env_un, env_fieldAddr, env_indexAddr, env_len]
  cases hb : posB r c xs with
  | false =>
    rw [hb] at hpos
    repeat (first | with_reducible refine wT ?_ | with_reducible refine wg0 rfl ?_ | with_reducible refine wpT ?_ | with_reducible refine wnF ?_ | with_reducible refine wsm ?_ | with_reducible refine wrN ?_ | with_reducible refine wbd (by assumption) ?_ | dsimp only)
    exact W.ret ⟨OwnSl.nil _ _, Keep.refl _ _⟩
  | true =>
    rw [hb] at hpos
    cases hpl : playerB pl with
    | false =>
      rw [hpl] at hplay
      repeat (first | with_reducible refine wT ?_ | with_reducible refine wg1 rfl ?_ | with_reducible refine wpF ?_ | with_reducible refine wnT ?_ | with_reducible refine wnF ?_ | with_reducible refine wpv ?_ | with_reducible refine wsm ?_ | with_reducible refine wrN ?_ | with_reducible refine wbd (by assumption) ?_ | dsimp only)
      exact W.ret ⟨OwnSl.nil _ _, Keep.refl _ _⟩
    | true =>
      rw [hpl] at hplay
      obtain ⟨R, C, hS⟩ := sides_of hb
      obtain ⟨P, rfl, hP⟩ := player_of hpl
      have hB := board_of_sides hS
      obtain ⟨rfl, rfl, _, _, _, _, h9, hlen, _⟩ := id hS
      have hF9 := set_lt9 hS 0
      have ex := exchanged_W g lf n (by omega) h hP
      obtain ⟨O, hO⟩ : ∃ O, O = 3 - P := ⟨_, rfl⟩
      rw [← hO] at ex
      have hO2 : O = 1 ∨ O = 2 := by omega
      have hcl : sizeN (setL xs 0) = xs.count 0 := cells_len hS
      repeat (first | with_reducible refine wF ?_ | with_reducible refine wg1 rfl ?_ | with_reducible refine wpF ?_ | with_reducible refine wnT ?_ | with_reducible refine wpv ?_ | with_reducible refine wsm ?_ | with_reducible refine wbd (by assumption) ?_ | dsimp only)
      refine wcall (standingOf_W g lf hp (by omega) O n (by omega) hlf) fun v h2 ⟨hv, k2⟩ => ?_
      subst hv
      dsimp only
      refine walS fun h3 id o3 k3 l3 => ?_
      dsimp only
      refine wstS o3 fun h4 o4 k4 => ?_
      have kk4 : Keep h.length h h4 := (k2.trans (k3.mono k2.1)).kbs (Nat.le_refl _) k4 (Nat.le_trans k2.1 l3)
      have hcnt := countIn_W g lf n (by omega) h4 hF9
      rw [hcl] at hcnt
      by_cases h6 : xs.count 0 ≤ 6
      · rw [if_pos (by rw [decide_eq_true h6]; rfl)]
        have tt4 : Tab g h4 := ((ht.1.keep k2).keep k3).at o3 k4
        have tt6 : Tab64 g h4 := ((ht.2.keep k2).keep k3).at o3 k4
        repeat (first | with_reducible refine wF ?_ | with_reducible refine wbd (by assumption) ?_ | (with_reducible refine wbd (fSt0 _) ?_) | (with_reducible refine wia30 ?_) | (with_reducible refine wbd (ld1 (by assumption) rfl) ?_) | with_reducible refine wgtrF (by omega) ?_ | dsimp only)
        refine wcall (newSearch_W g lf hB n (by omega) hlf tt4) fun v h5 ⟨s, m, hv, hs, k5, l1, l2⟩ => ?_
        subst hv
        repeat (first | dsimp only)
        refine wcall (partsOf_W g lf hF9 n (by omega) hlf h5) fun q h6 ⟨o6, k6⟩ => ?_
        unfold mustN
        obtain ⟨ok, hok⟩ : ∃ ok : Nat → Bool, ok = fun S : Nat => threatL (R : Int) (C : Int) xs (3 - (P : Int)) (S : Int) := ⟨_, rfl⟩
        rw [← hok]
        have hpf := parts_fill hF9
        have hyl : ∀ x ∈ partsN (cellsN (setL xs 0)), x < 2 ^ (R * C) := fun x hx => part_lt hS (fun _ h => h) hx
        have hmost := partsN_most (setL xs 0)
        obtain ⟨L, hL⟩ : ∃ L, L = partsN (cellsN (setL xs 0)) := ⟨_, rfl⟩
        rw [← hL] at o6 hpf hyl hmost
        have hLl : L.length = 2 ^ (cellsN (setL xs 0)).length := by rw [hpf, List.length_map, List.length_range]
        have hlm : (L.map fun x : Nat => (x : Int)).length = L.length := List.length_map ..
        have h22 : 2 ^ (R * C) ≤ 2 ^ 9 := Nat.pow_le_pow_right (by decide) h9
        have hm5 := hs.lt
        have o5 := (o4.keep k5).keep k6
        have hne : id ≠ m := (hs.keep k6).ne o5
        repeat (first | with_reducible refine wlen (OwnSl.int (by assumption)) ?_ | dsimp only)
        refine loopW (fun z st => ∃ (i : Nat) (h2 : PHeap), st = impl_MustCells.st0 (.int .i64 (O : Int)) (.ptr id 0) (.int .i64 ((mustF ok (cellsN (setL xs 0)) i (setL xs 0) : Nat) : Int)) (.ptr s 0) q (.int .i64 ((L.map fun x : Nat => (x : Int)).length : Int)) (.int .i64 (i : Int)) h2 ∧ i + z = L.length ∧ Sch R C h2 s m ∧ At h2 id (stC (setL xs 0) (setL xs 1) (setL xs 2) O) ∧ OwnSl h5.length h2 q (L.map fun x : Nat => (x : Int)) ∧ KB m h6 h2) ?_ lf L.length _ (by omega)
          ⟨0, h6, rfl, by omega, hs.keep k6, o5, o6, KB.refl _ _⟩
        rintro n1 z st ⟨i, h7, rfl, hi, hs7, o7, ol7, k7⟩ next
        have kk6 : Keep h.length h h6 := (kk4.trans (k5.mono kk4.1)).trans (k6.mono (Nat.le_trans kk4.1 k5.1))
        have hkk : Keep h.length h h7 := kk6.kbs (Nat.le_refl _) k7 (Nat.le_trans kk4.1 l2)
        have hml := must_lt (ok := ok) (l := cellsN (setL xs 0)) hF9 i
        rw [impl_MustCells.body0_eq]
        unfold impl_MustCells.body0
        simp only [env_C, env_load, env_bin, env_indexAddr]
        by_cases hil : i < L.length
        · obtain ⟨a, ea, la⟩ := ol7.int.at' (i := i) (by rw [hlm]; exact hil)
          have hyi : L[i] = fillN (cellsN (setL xs 0)) i := by
            have : L[i]? = some (fillN (cellsN (setL xs 0)) i) := by rw [hpf, List.getElem?_map, List.getElem?_range (by omega)]; rfl
            rw [List.getElem?_eq_getElem hil] at this
            exact Option.some.inj this
          rw [List.getElem_map] at la
          have hx := hyl L[i] (List.getElem_mem hil)
          rw [hyi] at la hx
          have hmf : mustF ok (cellsN (setL xs 0)) (i + 1) (setL xs 0) = bif ok (fillN (cellsN (setL xs 0)) i) then mustF ok (cellsN (setL xs 0)) i (setL xs 0) &&& fillN (cellsN (setL xs 0)) i else mustF ok (cellsN (setL xs 0)) i (setL xs 0) := rfl
          have hoy : ok (fillN (cellsN (setL xs 0)) i) = decide (winL (R : Int) (C : Int) (givenL xs (O : Int) (fillN (cellsN (setL xs 0)) i)) (O : Int) = (O : Int)) := by
            have e3 : (3 : Int) - (P : Int) = (O : Int) := by omega
            rw [hok]
            simp only [e3]
            unfold threatL okL
            rw [hb, playerB_of hO2, hlen, decide_eq_true (by omega : (0 : Int) ≤ ((fillN (cellsN (setL xs 0)) i : Nat) : Int) ∧ ((fillN (cellsN (setL xs 0)) i : Nat) : Int) < ((2 ^ (R * C) : Nat) : Int))]
            simp
          obtain ⟨y, hy⟩ : ∃ y, y = fillN (cellsN (setL xs 0)) i := ⟨_, rfl⟩
          rw [← hy] at la hx hmf hoy
          have hy9 : y < 2 ^ 9 := by omega
          have ht7 : Tab64 g h7 := ((tt6.keep k5).keep k6).kb (hs.keep k6) k7
          obtain ⟨M, hM⟩ : ∃ M, M = mustF ok (cellsN (setL xs 0)) i (setL xs 0) := ⟨_, rfl⟩
          rw [← hM] at hml hmf
          rw [← hM]
          repeat (first | with_reducible refine wT ?_ | with_reducible refine wbd (by assumption) ?_ | (with_reducible refine wbd (ldS (by assumption)) ?_) | with_reducible refine wlssT (by omega) ?_)
          refine wcall (winsWith_W g lf hb hbig hlf hO2 hO2 hy9 n (by omega) hs7 ht7) fun v h8 ⟨hv, hs8, k8⟩ => ?_
          subst hv
          cases hw : decide (winL (R : Int) (C : Int) (givenL xs (O : Int) y) (O : Int) = (O : Int)) with
          | true =>
            rw [hw] at hoy
            rw [hoy, cond_true] at hmf
            repeat (first | with_reducible refine wT ?_ | with_reducible refine wadd1 (by omega) ?_ | with_reducible refine wand (by omega) (by omega) ?_ | dsimp only)
            rw [← hmf]
            exact next _ _ (show z - 1 < z by omega) ⟨i + 1, h8, rfl, by omega, hs8, o7.kb k8 hne, ol7.kbo k8 hm5, k7.trans k8⟩
          | false =>
            rw [hw] at hoy
            rw [hoy, cond_false] at hmf
            repeat (first | with_reducible refine wF ?_ | with_reducible refine wadd1 (by omega) ?_ | dsimp only)
            rw [← hmf]
            exact next _ _ (show z - 1 < z by omega) ⟨i + 1, h8, rfl, by omega, hs8, o7.kb k8 hne, ol7.kbo k8 hm5, k7.trans k8⟩
        · have hie : i = 2 ^ (cellsN (setL xs 0)).length := by omega
          subst hie
          repeat (first | with_reducible refine wF ?_ | with_reducible refine wlssF (by omega) ?_ | rw [kLoop_exit] | rw [impl_MustCells.after0_se0_9_10_11_12_40_41_42_43] | simp only [env_C, env_g, env_lf, env_pick, env_alloc, env_box, env_build, env_buildSlice, env_load, env_store, env_ptr, env_bin, env_un, env_conv, env_make, env_slice, env_fieldAddr, env_field, env_indexAddr, env_index, env_extract, env_len, env_append, env_max, env_min, env_makeMap, env_lookup, env_update])
          refine wcall (cellsIn_W g lf hml n (by omega) hlf h7) fun q8 h8 ⟨o8, k8⟩ => ?_
          repeat (first | with_reducible refine wresO (by assumption) ?_ | dsimp only)
          exact W.ret ⟨o8.mono hkk.1, hkk.trans (k8.mono hkk.1)⟩
      · rw [if_neg (by rw [decide_eq_false h6]; decide)]
        repeat (first | with_reducible refine wT ?_ | with_reducible refine wrN ?_ | with_reducible refine wbd (by assumption) ?_ | (with_reducible refine wbd (fSt0 _) ?_) | (with_reducible refine wia30 ?_) | (with_reducible refine wbd (ld1 (by assumption) rfl) ?_) | with_reducible refine wgtrT (by omega) ?_ | dsimp only)
        exact W.ret ⟨OwnSl.nil _ _, kk4⟩

/-! ### bridges -/
def brOk (R C A B : Nat) : Bool := (decide (wideN R C (1 <<< A) >>> B &&& 1 = 0) && decide (sizeN (wideN R C (1 <<< A) &&& wideN R C (1 <<< B)) = 2)) == bridgeB R C A B
theorem br_all : ((List.range 5).all fun R => (List.range 5).all fun C => (List.range 9).all fun A => (List.range 9).all fun B => !(decide (1 ≤ R ∧ 1 ≤ C ∧ R * C ≤ 9 ∧ A < R * C ∧ B < R * C)) || brOk R C A B) = true := by kernel_rfl
theorem br_ok {R C A B : Nat} (hB : BoardOf R C) (hA : A < R * C) (hB' : B < R * C) : (decide (wideN R C (1 <<< A) >>> B &&& 1 = 0) && decide (sizeN (wideN R C (1 <<< A) &&& wideN R C (1 <<< B)) = 2)) = bridgeB R C A B := by
  obtain ⟨b1, b2, b3, b4, h9⟩ := hB
  have h := List.all_eq_true.1 (List.all_eq_true.1 (List.all_eq_true.1 (List.all_eq_true.1 br_all R (List.mem_range.2 (by omega))) C (List.mem_range.2 (by omega))) A (List.mem_range.2 (by omega))) B (List.mem_range.2 (by omega))
  rw [decide_eq_true (⟨b1, b3, h9, hA, hB'⟩ : 1 ≤ R ∧ 1 ≤ C ∧ R * C ≤ 9 ∧ A < R * C ∧ B < R * C), Bool.not_true, Bool.false_or] at h
  exact beq_iff_eq.1 h

theorem bridgesOk (hlf : 1000 < lf) : BridgesOk g lf := by
  intro N hN r c k h ht
  obtain ⟨n, rfl⟩ : ∃ n, N = n + 1 := ⟨N - 1, by omega⟩
  have hcell := cellOk_N g lf n (by omega) h r c k
  suffices this : W (CL g lf (n + 1) fn_impl_BridgesOf [.int .i64 r, .int .i64 c, .int .i64 k] h) fun q h' => OwnSl h.length h' q (bridgesL r c k) ∧ Keep h.length h h' by
    obtain ⟨q, h', e, o, k⟩ := this
    exact ⟨q, h', e, o, k⟩
  unfold bridgesL
  rw [impl_BridgesOf.call_eq]
  unfold impl_BridgesOf.main
  simp only [env_C, env_lf, env_bin, env_un]
  cases hc : cellB r c k with
  | false =>
    rw [hc] at hcell
    repeat (first | with_reducible refine wT ?_ | with_reducible refine wnF ?_ | with_reducible refine wrN ?_ | with_reducible refine wbd (by assumption) ?_ | dsimp only)
    exact W.ret ⟨OwnSl.nil _ _, Keep.refl _ _⟩
  | true =>
    rw [hc] at hcell
    obtain ⟨R, C, K, rfl, rfl, rfl, b1, b2, b3, b4, h9, hK⟩ := cell_of hc
    have hB : BoardOf R C := ⟨b1, b2, b3, b4, h9⟩
    have hK9 : K < 9 := by omega
    have hsl := shl_lt hK9
    obtain ⟨h1, e1, k1⟩ := withNear_calls g lf b1 b2 b3 b4 h9 hsl n (by omega) (by omega) ht.1
    have hW := wide_lt hB hsl
    rw [if_pos rfl]
    simp only [Int.toNat_natCast]
    rw [← brFrom_all]
    repeat (first | with_reducible refine wF ?_ | with_reducible refine wnT ?_ | with_reducible refine wbd (by assumption) ?_ | (with_reducible refine wmulN (by omega) ?_) | with_reducible refine wshl (by omega) ?_ | dsimp only)
    refine loopW (fun m st => ∃ (i : Nat) (zs : List Int) (q : PV) (h2 : PHeap), st = impl_BridgesOf.st0 (.int .i64 (R : Int)) (.int .i64 (C : Int)) (.int .i64 ((wideN R C (1 <<< K) : Nat) : Int)) q (.int .i64 ((R * C : Nat) : Int)) (.int .i64 (i : Int)) h2 ∧ i + m = R * C ∧ zs.length ≤ i ∧ zs ++ brFrom R C K i (R * C - i) = brFrom R C K 0 (R * C) ∧ OwnSl h1.length h2 q zs ∧ Keep h1.length h1 h2) ?_ lf (R * C) _ (by omega)
      ⟨0, [], .nilsl, h1, rfl, by omega, Nat.le_refl _, rfl, OwnSl.nil _ _, Keep.refl _ _⟩
    rintro n1 m1 st ⟨i, zs, q, h2, rfl, him, hzl, hzs, o2, k2⟩ next
    rw [impl_BridgesOf.body0_eq]
    unfold impl_BridgesOf.body0
    simp only [env_C, env_pick, env_buildSlice, env_bin, env_append]
    by_cases hi : i < R * C
    · have hi9 : i < 9 := by omega
      have hsl2 := shl_lt hi9
      obtain ⟨h3, e3, k3⟩ := withNear_calls g lf b1 b2 b3 b4 h9 hsl2 n (by omega) (by omega) ((ht.1.keep k1).keep k2)
      have hW2 := wide_lt hB hsl2
      have hand : wideN R C (1 <<< K) &&& wideN R C (1 <<< i) < 2 ^ 9 := Nat.and_lt_two_pow _ hW2
      have hcnt := fun hh => countIn_W g lf n (by omega) hh hand
      have hbr := br_ok hB hK hi
      rw [show R * C - i = (R * C - (i + 1)) + 1 by omega, brFrom_succ] at hzs
      have hcnt3 := hcnt h3
      obtain ⟨X, hX⟩ : ∃ X, X = wideN R C (1 <<< K) := ⟨_, rfl⟩
      obtain ⟨Y, hY⟩ : ∃ Y, Y = wideN R C (1 <<< i) := ⟨_, rfl⟩
      rw [← hX] at hW hand hbr hcnt3
      rw [← hY] at hW2 hand hbr hcnt3 e3
      rw [← hX]
      have hX62 : X < 2 ^ 62 := by omega
      have hY62 : Y < 2 ^ 62 := by omega
      have hs62 : X >>> i < 2 ^ 62 := Nat.lt_of_le_of_lt (by rw [Nat.shiftRight_eq_div_pow]; exact Nat.div_le_self _ _) hX62
      by_cases hn : X >>> i &&& 1 = 0
      · rw [decide_eq_true hn, Bool.true_and] at hbr
        have hzn : (((X >>> i &&& 1 : Nat)) : Int) = 0 := by omega
        by_cases h2c : sizeN (X &&& Y) = 2
        · rw [decide_eq_true h2c] at hbr
          rw [← hbr, if_pos rfl] at hzs
          have hcc : ((sizeN (X &&& Y) : Nat) : Int) = 2 := by omega
          repeat (first | with_reducible refine wT ?_ | with_reducible refine wg1 rfl ?_ | with_reducible refine wpT ?_ | with_reducible refine wpv ?_ | with_reducible refine wsm ?_ | with_reducible refine wbd (by assumption) ?_ | (with_reducible refine wand1 (by omega) ?_) | with_reducible refine wshl (by omega) ?_ | with_reducible refine wshr (by omega) ?_ | with_reducible refine wand (by omega) (by omega) ?_ | with_reducible refine wlssT (by omega) ?_ | with_reducible refine weqlT (by omega) ?_ | dsimp only)
          refine wap (o2.keep k3) (Nat.le_trans k2.1 k3.1) (by omega) fun q' h5 o5 k5 => ?_
          repeat (first | with_reducible refine wadd1 (by omega) ?_ | dsimp only)
          exact next _ _ (show m1 - 1 < m1 by omega) ⟨i + 1, zs ++ [(i : Int)], q', h5, by rw [hX], by omega, by rw [List.length_append]; simp only [List.length_cons, List.length_nil]; omega, by rw [List.append_assoc]; exact hzs, o5, (k2.trans (k3.mono k2.1)).trans k5⟩
        · rw [decide_eq_false h2c] at hbr
          rw [← hbr, if_neg (by decide)] at hzs
          have hcc : ¬ ((sizeN (X &&& Y) : Nat) : Int) = 2 := by omega
          repeat (first | with_reducible refine wT ?_ | with_reducible refine wF ?_ | with_reducible refine wg1 rfl ?_ | with_reducible refine wpT ?_ | with_reducible refine wpv ?_ | with_reducible refine wsm ?_ | with_reducible refine wbd (by assumption) ?_ | (with_reducible refine wand1 (by omega) ?_) | with_reducible refine wadd1 (by omega) ?_ | with_reducible refine wshl (by omega) ?_ | with_reducible refine wshr (by omega) ?_ | with_reducible refine wand (by omega) (by omega) ?_ | with_reducible refine wlssT (by omega) ?_ | with_reducible refine weqlT (by omega) ?_ | with_reducible refine weqlF (by omega) ?_ | dsimp only)
          exact next _ _ (show m1 - 1 < m1 by omega) ⟨i + 1, zs, q, h3, by rw [hX], by omega, by omega, hzs, o2.keep k3, k2.trans (k3.mono k2.1)⟩
      · rw [decide_eq_false hn, Bool.false_and] at hbr
        rw [← hbr, if_neg (by decide)] at hzs
        have hzn : ¬ (((X >>> i &&& 1 : Nat)) : Int) = 0 := by omega
        repeat (first | with_reducible refine wT ?_ | with_reducible refine wF ?_ | with_reducible refine wg0 rfl ?_ | with_reducible refine wpF ?_ | with_reducible refine wsm ?_ | (with_reducible refine wand1 (by omega) ?_) | with_reducible refine wadd1 (by omega) ?_ | with_reducible refine wshr (by omega) ?_ | with_reducible refine wlssT (by omega) ?_ | with_reducible refine weqlF (by omega) ?_ | dsimp only)
        exact next _ _ (show m1 - 1 < m1 by omega) ⟨i + 1, zs, q, h2, by rw [hX], by omega, by omega, hzs, o2, k2⟩
    · rw [show R * C - i = 0 by omega, brFrom_zero, List.append_nil] at hzs
      repeat (first | with_reducible refine wF ?_ | with_reducible refine wlssF (by omega) ?_ | with_reducible refine wresO (by assumption) ?_ | rw [kLoop_exit] | rw [impl_BridgesOf.after0_se0_0_1_7_8_22_23_24])
      exact W.ret ⟨(hzs ▸ o2).mono k1.1, k1.trans (k2.mono k1.1)⟩

end Go.Proofs.YtmhflbomploidaaDoor

