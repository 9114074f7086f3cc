/- Texts of this seat, in their order, put together by program. -/
import Derived.Test.YtpaehbfknlpkbacDoorK10
import Derived.Lib.Bytealg
set_option linter.unusedSimpArgs false
set_option linter.unusedVariables false
set_option linter.unusedSectionVars false
/- The exact laws of chapter 11 over what the program's functions are asked to compute. -/
set_option maxRecDepth 20000
namespace Go.Proofs.YtpaehbfknlpkbacDoor
open Go Go.Ip G

/-- What is asked of the program's functions of chapter 11. -/
def CellTextOk (g : Nat → PV) (lf : Nat) : Prop := ∀ (N : Nat), 44 ≤ N → ∀ (r c k : Int) (h : PHeap),
  ∃ h', CL g lf N fn_impl_CellText [.int .i64 r, .int .i64 c, .int .i64 k] h = some (.str (sB (cellT r c k)), h') ∧ Keep h.length h h'
def ReadCellOk (g : Nat → PV) (lf : Nat) : Prop := ∀ (N : Nat), 44 ≤ N → ∀ (r c : Int) (s : List UInt8) (h : PHeap),
  ∃ h', CL g lf N fn_impl_ReadCell [.int .i64 r, .int .i64 c, .str (sB s)] h = some (readV (readI r c s), h') ∧ Keep h.length h h'
def RecordOkOk (g : Nat → PV) (lf : Nat) : Prop := ∀ (N : Nat), 44 ≤ N → ∀ (r c : Int) {ms : List Int} {p : PV} {h : PHeap}, TabOk g h → IntSl .i64 h p ms → ms.length ≤ 2 ^ 35 → ms.length < lf →
  ∃ h', CL g lf N fn_impl_RecordOk [.int .i64 r, .int .i64 c, p] h = some (.bool (recB r c ms), h') ∧ Keep h.length h h'
def SlipsOk (g : Nat → PV) (lf : Nat) : Prop := ∀ (N : Nat), 44 ≤ N → ∀ (r c : Int) {ms : List Int} {p : PV} {h : PHeap}, TabOk g h → IntSl .i64 h p ms → ms.length ≤ 2 ^ 35 → ms.length < lf →
  ∃ q h', CL g lf N fn_impl_SlipsOf [.int .i64 r, .int .i64 c, p] h = some (q, h') ∧ OwnSl h.length h' q (slipsL r c ms) ∧ Keep h.length h h'
theorem slipsL_length (r c : Int) (ms : List Int) : (slipsL r c ms).length ≤ 9 := by
  unfold slipsL
  split
  · rename_i h
    exact Nat.le_trans (slipsF_bounds r c ms _ _ _).2.2 (rec_length h.1).2
  · simp
section
variable {Q : PV → PHeap → Prop} {P : Program} {t : TypeId} {a : List UInt8} {f : PV → Res}
theorem wsneS (hf : W (f (.bool false)) Q) : W ((binP P .neq t (.str (sB a)) (.str (sB a))).bind f) Q := wsneF rfl hf
end

variable (g : Nat → PV) (lf n : Nat)

theorem exactCellText_calls (hok : CellTextOk g lf) {h : PHeap} (N : Nat) (hN : 48 ≤ N) (r c k : Int) :
    ∃ h', CL g lf N fn_laws_FnExactCellText [.int .i64 r, .int .i64 c, .int .i64 k] h = some (.bool true, h') := by
  obtain ⟨n, rfl⟩ : ∃ n, N = n + 1 := ⟨N - 1, by omega⟩
  apply W.yes
  rw [laws_FnExactCellText.call_eq]
  unfold laws_FnExactCellText.main
  simp only [env_C, env_bin]
  refine wcall (specCellText_W g lf n (by omega) r c k h) fun v h1 ⟨hv, k1⟩ => ?_
  subst hv
  obtain ⟨h2, e2, k2⟩ := hok n (by omega) r c k h1
  repeat (first | with_reducible refine wF ?_ | with_reducible refine wrB ?_ | with_reducible refine wbd (by assumption) ?_ | (with_reducible refine wsneS ?_) | dsimp only)
  exact W.ret rfl

theorem exactReadCell_calls (hok : ReadCellOk g lf) {h : PHeap} (N : Nat) (hN : 48 ≤ N) (r c : Int) (s : List UInt8) (hf : 1048576 < lf) :
    ∃ h', CL g lf N fn_laws_FnExactReadCell [.int .i64 r, .int .i64 c, .str (sB s)] h = some (.bool true, h') := by
  obtain ⟨n, rfl⟩ : ∃ n, N = n + 1 := ⟨N - 1, by omega⟩
  apply W.yes
  rw [laws_FnExactReadCell.call_eq]
  unfold laws_FnExactReadCell.main
  simp only [env_C, env_pick, env_bin, env_extract, env_len]
  refine wslen ?_
  by_cases hbig : (1048576 : Int) < (s.length : Int)
  · repeat (first | with_reducible refine wT ?_ | with_reducible refine wrB ?_ | with_reducible refine wgtrT (by omega) ?_)
    exact W.ret rfl
  · repeat (first | with_reducible refine wF ?_ | with_reducible refine wgtrF (by omega) ?_)
    refine wcall (specReadCell_W g lf (by omega) n (by omega) r c s h) fun v h1 ⟨hv, k1⟩ => ?_
    subst hv
    obtain ⟨h2, e2, k2⟩ := hok n (by omega) r c s h1
    unfold readV at e2 ⊢
    cases hi : readI r c s with
    | none =>
      rw [hi] at e2
      repeat (first | with_reducible refine wF ?_ | with_reducible refine wg1 rfl ?_ | with_reducible refine wpF ?_ | with_reducible refine wpv ?_ | with_reducible refine wsm ?_ | with_reducible refine wrB ?_ | with_reducible refine wx0 ?_ | with_reducible refine wx1 ?_ | with_reducible refine wbd (by assumption) ?_ | (with_reducible refine wneqBB ?_) | with_reducible refine wneqF (by omega) ?_ | dsimp only)
      exact W.ret rfl
    | some j =>
      rw [hi] at e2
      repeat (first | with_reducible refine wF ?_ | with_reducible refine wg1 rfl ?_ | with_reducible refine wpF ?_ | with_reducible refine wpv ?_ | with_reducible refine wsm ?_ | with_reducible refine wrB ?_ | with_reducible refine wx0 ?_ | with_reducible refine wx1 ?_ | with_reducible refine wbd (by assumption) ?_ | (with_reducible refine wneqBB ?_) | with_reducible refine wneqF (by omega) ?_ | dsimp only)
      exact W.ret rfl

theorem exactRecordOk_calls (hok : RecordOkOk g lf) {xs : List Int} {p : PV} {h : PHeap} (N : Nat) (hN : 48 ≤ N) (r c : Int) (ht : TabOk g h) (hp : IntSl .i64 h p xs) (hf : 1048576 < lf) :
    ∃ h', CL g lf N fn_laws_FnExactRecordOk [.int .i64 r, .int .i64 c, p] h = some (.bool true, h') := by
  obtain ⟨n, rfl⟩ : ∃ n, N = n + 1 := ⟨N - 1, by omega⟩
  apply W.yes
  rw [laws_FnExactRecordOk.call_eq]
  unfold laws_FnExactRecordOk.main
  simp only [env_C, env_bin, env_un, env_len]
  have hlen := hp.len'
  by_cases hbig : (1048576 : Int) < (xs.length : Int)
  · repeat (first | with_reducible refine wT ?_ | with_reducible refine wrB ?_ | with_reducible refine wbd (by assumption) ?_ | with_reducible refine wgtrT (by omega) ?_)
    exact W.ret rfl
  · obtain ⟨q1, h1, e1, o1, k1⟩ := toIntS_calls g lf n (by omega) hp (by omega) (by omega)
    obtain ⟨v2, h2, e2, hv2, k2⟩ := specRecordOk_W g lf (by omega) r c o1.int n (by omega)
    subst hv2
    have K2 : Keep h.length h h2 := k1.trans (k2.mono k1.1)
    obtain ⟨q3, h3, e3, o3, k3⟩ := toIntS_calls g lf n (by omega) (hp.keep K2) (by omega) (by omega)
    have K3 : Keep h.length h h3 := K2.trans (k3.mono K2.1)
    obtain ⟨h4, e4, k4⟩ := hok n (by omega) r c (ht.keep K3) o3.int (by omega) (by omega)
    have K4 : Keep h.length h h4 := K3.trans (k4.mono K3.1)
    obtain ⟨q5, h5, e5, o5, k5⟩ := toIntS_calls g lf n (by omega) (hp.keep K4) (by omega) (by omega)
    have e6 := eqIntS_N g lf n (by omega) ((o3.keep k4).keep k5).int o5.int (by omega) (by omega)
    rw [decide_eq_true rfl] at e6
    repeat (first | with_reducible refine wF ?_ | with_reducible refine wnT ?_ | with_reducible refine wrB ?_ | with_reducible refine wbd (by assumption) ?_ | (with_reducible refine wneqBB ?_) | with_reducible refine wgtrF (by omega) ?_ | dsimp only)
    exact W.ret rfl

end Go.Proofs.YtpaehbfknlpkbacDoor

/- The draws of chapter 11: boards with moves. -/
set_option maxRecDepth 20000
namespace Go.Proofs.YtpaehbfknlpkbacDoor
open Go Go.Ip G

theorem wlit3 {Q : PV → PHeap → Prop} {h : PHeap} {a b c : Int} {F : PV × PHeap → Res} (hf : ∀ p h', OwnSl h.length h' p [a, b, c] → Keep h.length h h' → W (F (p, h')) Q) : W ((buildSliceP Tryd.prog 23 3 [(0, .int .i64 a), (1, .int .i64 b), (2, .int .i64 c)] h).bind F) Q := by
  have hb : buildSliceP Tryd.prog 23 3 [(0, .int .i64 a), (1, .int .i64 b), (2, .int .i64 c)] h = some (.sl h.length 0 3, h ++ [.own 1 ([a, b, c].map (.int .i64))]) := by
    simp [buildSliceP, tyElem, tySize, tyZero, repeatCells, fillP, PV.cells, setCells]
  exact wbd hb (hf _ _ (.inr ⟨h.length, Nat.le_refl _, rfl, by simp⟩) (Keep.append _ _ _ (Nat.le_refl _)))
theorem Apart.only1 {b0 b1 b2 id : Nat} {h h' : PHeap} {q : PV} {ys : List Int} (s : Apart b0 b1 b2 h q ys) (k : Only id (id + 1) h h') (hid : id < b0) : Apart b0 b1 b2 h' q ys := by
  obtain ⟨n, m, o, h1, h2, h3⟩ := s
  exact ⟨n, m, o.only k (.inr (by omega)), h1, h2, by rw [k.1]; exact h3⟩

variable (g : Nat → PV) (lf n : Nat)

theorem record_W {h : PHeap} {id m : Nat} (N : Nat) (hN : 9 ≤ N) (c : Int) (hc1 : 0 ≤ c) (hc2 : c ≤ 1000) (hr : Rd h id m) (hm : m ≤ 500000) (hlf : 1000 < lf) :
    W (CL g lf N fn_spec_l20Record [.ptr id 0, .int .i64 c] h) fun v h' => ∃ (r cc : Int) (q : PV) (ms : List Int) (m' : Nat), v = .tup [.int .i64 r, .int .i64 cc, q] ∧ Rd h' id m' ∧ m' ≤ m + 100 ∧ Keep id h h' ∧ OwnSl (id + 1) h' q ms ∧ ms.length ≤ 11 ∧ (∀ e ∈ ms, -1 ≤ e ∧ e ≤ 9) ∧ -1 ≤ r ∧ r ≤ 5 ∧ -1 ≤ cc ∧ cc ≤ 5 := by
  obtain ⟨n, rfl⟩ : ∃ n, N = n + 1 := ⟨N - 1, by omega⟩
  have hid := hr.lt
  obtain ⟨r, cc, h1, e1, r1, K1, hr1, hr2, hc3, hc4⟩ := board_calls g lf n (by omega) (c * 2) hr (by omega) (by omega) (by omega)
  have hb := mul_bound hr1 hr2 hc3 hc4
  have hl1 := K1.1
  obtain ⟨X, hX, hX0, hX1⟩ : ∃ X : Nat, foldP maxP2 (.int .i64 (r * cc)) [.int .i64 0] = some (.int .i64 (X : Int)) ∧ 0 ≤ X ∧ X ≤ 25 := by
    refine ⟨(if (0 : Int) > r * cc then (0 : Int) else r * cc).toNat, ?_, Nat.zero_le _, by split <;> omega⟩
    rw [Int.toNat_of_nonneg (by split <;> omega)]; rfl
  have f10 : binP Tryd.prog .rem 3 (.int .i64 (X : Int)) (.int .i64 10) = some (.int .i64 ((X % 10 : Nat) : Int)) := f_rem X 10 (by decide)
  rw [spec_l20Record.call_eq]
  unfold spec_l20Record.main
  simp only [env_C, env_lf, env_buildSlice, env_bin, env_make, env_extract, env_max]
  repeat (first | with_reducible refine wx0 ?_ | with_reducible refine wx1 ?_ | with_reducible refine wbd (by assumption) ?_ | (refine wempty fun q h2 o2 k2 => ?_) | with_reducible refine wmul (by omega) ?_ | dsimp only)
  try dsimp only at o2 k2
  have r2 := r1.keep k2 r1.lt
  repeat (first | (refine wmake (by omega) fun p h3 o3 k3 => ?_) | dsimp only)
  try dsimp only at o3 k3
  have r3 := r2.keep k3 r2.lt
  obtain ⟨v4, h4, e4, r4, ok4, a1, a2, _⟩ := pick_calls g lf n (by omega) 10 r3 (by omega) (by omega)
  obtain ⟨V, rfl⟩ := Int.eq_ofNat_of_zero_le a1
  have hV : V < 10 := by have := a2 (by omega); omega
  have K04 : Keep id h h4 := (K1.keep (by omega)).trans ((k2.mono (by omega)).trans ((k3.mono (Nat.le_trans (by omega) k2.1)).trans ok4.keep))
  have oA4 : Apart (id + 1) h2.length h3.length h4 q [] := ⟨h1.length, h2.length, (o2.b.keep k3).only ok4 (.inr (by omega)), by omega, .inl (Nat.le_refl _), by rw [ok4.1]; exact k3.1⟩
  have oB4 : OwnB h2.length h3.length h4 p (List.replicate (X % 10) 0) := o3.b.only ok4 (.inr (by have := k2.1; omega))
  repeat (first | with_reducible refine wbd (by assumption) ?_ | dsimp only)
  refine loopW (fun d s => ∃ (T : Nat) (ms xs : List Int) (q p : PV) (m' : Nat) (h5 : PHeap), s = spec_l20Record.st0 (.ptr id 0) (.int .i64 c) (.int .i64 r) (.int .i64 cc) q p (.int .i64 (T : Int)) (.int .i64 (d : Int)) h5 ∧ (T = 1 ∨ T = 2) ∧ ms.length + d ≤ 9 ∧ xs.length ≤ 9 ∧ (∀ e ∈ ms, -1 ≤ e ∧ e ≤ 9) ∧ (∃ c1 c2, id < c1 ∧ c2 ≤ h5.length ∧ Apart (id + 1) c1 c2 h5 q ms ∧ OwnB c1 c2 h5 p xs) ∧ Rd h5 id m' ∧ m' + d ≤ m + 20 ∧ Keep id h h5) ?_ lf V _ (by omega)
    ⟨1, [], _, q, p, m + 3 + 1, h4, rfl, .inl rfl, by simp; omega, by rw [List.length_replicate]; omega, (fun e he => by cases he), ⟨_, _, Nat.lt_of_lt_of_le hid (Nat.le_trans hl1 k2.1), by rw [ok4.1]; exact Nat.le_refl _, oA4, oB4⟩, r4, by omega, K04⟩
  rintro n1 d s ⟨T, ms, xs, q, p, m', h5, rfl, hT, hml, hxl, hme, ⟨c1, c2, hc0, hc12, oA, oB⟩, r5, hm5, k5⟩ next
  have hid5 := r5.lt
  have leave : d = 0 ∨ boardB r cc = false → W (spec_l20Record.K0 (env g lf n) (kTop Tryd.prog Tryd.f20) (.exit 0) (spec_l20Record.se0_0_1_7_8_9_10_11_12_38 (.ptr id 0) (.int .i64 c) (.int .i64 r) (.int .i64 cc) q p (.int .i64 (T : Int)) (.int .i64 (d : Int)) (.bool false) h5)) fun v h' => ∃ (r cc : Int) (q : PV) (ms : List Int) (m' : Nat), v = .tup [.int .i64 r, .int .i64 cc, q] ∧ Rd h' id m' ∧ m' ≤ m + 100 ∧ Keep id h h' ∧ OwnSl (id + 1) h' q ms ∧ ms.length ≤ 11 ∧ (∀ e ∈ ms, -1 ≤ e ∧ e ≤ 9) ∧ -1 ≤ r ∧ r ≤ 5 ∧ -1 ≤ cc ∧ cc ≤ 5 := fun _ => by
    obtain ⟨bo, h6, e6, r6, ok6⟩ := odd_calls0 g lf n (by omega) (c * 2) r5 (by omega) (by omega) (by omega)
    have k6 := k5.trans ok6.keep
    have o6 := oA.sl.keepOnly ok6 (Nat.lt_succ_self _)
    cases bo with
    | false =>
      repeat (first | with_reducible refine wF ?_ | with_reducible refine wrI ?_ | with_reducible refine wbd (by assumption) ?_ | (with_reducible refine wresO o6 ?_) | with_reducible refine wmul (by omega) ?_ | rw [spec_l20Record.after0_se0_0_1_7_8_9_10_11_12_38] | dsimp only | simp only [env_C, env_Y, env_g, env_lf, env_pick, env_alloc, env_box, env_build, env_buildSlice, env_load, env_store, env_ptr, env_bin, env_un, env_conv, env_make, env_slice, env_fieldAddr, env_field, env_indexAddr, env_index, env_extract, env_len, env_append, env_max, env_min, env_makeMap, env_lookup, env_update, env_clos, env_bstr, env_ext])
      exact W.ret ⟨r, cc, q, ms, _, rfl, r6, by omega, k6, o6, by omega, hme, hr1, hr2, hc3, hc4⟩
    | true =>
      repeat (first | with_reducible refine wT ?_ | with_reducible refine wbd (by assumption) ?_ | (refine wlit3 fun q7 h7 o7 k7 => ?_) | with_reducible refine wmul (by omega) ?_ | rw [spec_l20Record.after0_se0_0_1_7_8_9_10_11_12_38] | dsimp only | simp only [env_C, env_Y, env_g, env_lf, env_pick, env_alloc, env_box, env_build, env_buildSlice, env_load, env_store, env_ptr, env_bin, env_un, env_conv, env_make, env_slice, env_fieldAddr, env_field, env_indexAddr, env_index, env_extract, env_len, env_append, env_max, env_min, env_makeMap, env_lookup, env_update, env_clos, env_bstr, env_ext])
      try dsimp only at o7 k7
      have r7 := r6.keep k7 r6.lt
      have o67 := o6.keep k7
      obtain ⟨v8, h8, e8, r8, ok8, d1, d2, _⟩ := pick_calls g lf n (by omega) 3 r7 (by omega) (by omega)
      obtain ⟨Y, rfl⟩ := Int.eq_ofNat_of_zero_le d1
      have hY : Y < 3 := by have := d2 (by omega); omega
      have hid6 := r6.lt
      have o8 : OwnSl h6.length h8 q7 [-1, 9, 0] := o7.keepOnly ok8 (by omega)
      have o68 := o67.keepOnly ok8 (Nat.lt_succ_self _)
      have hid8 := r8.lt
      repeat (first | with_reducible refine wbd (by assumption) ?_ | (refine wat o8.int (show Y < 3 from hY) fun a hl => ?_) | dsimp only)
      skip
      refine wap o68 hid8 (by omega) fun p' h9 o9 k9 => ?_
      have r9 := r8.keep k9 (Nat.lt_succ_self _)
      have hv : -1 ≤ ([-1, 9, 0] : List Int)[Y] ∧ ([-1, 9, 0] : List Int)[Y] ≤ 9 := by
        have : Y = 0 ∨ Y = 1 ∨ Y = 2 := by omega
        rcases this with rfl | rfl | rfl <;> simp
      repeat (first | with_reducible refine wrI ?_ | (with_reducible refine wresO o9 ?_) | dsimp only)
      refine W.ret ⟨r, cc, p', _, _, rfl, r9, by omega, k6.trans ((k7.mono (by omega)).trans (ok8.keep.trans (k9.mono (Nat.le_succ _)))), o9, by rw [List.length_append]; simp; omega, fun e he => ?_, hr1, hr2, hc3, hc4⟩
      rcases List.mem_append.1 he with he | he
      · exact hme e he
      · rw [List.mem_singleton.1 he]; exact hv
  have hB := specBoardOk_N g lf n (by omega) h5 r cc
  rw [spec_l20Record.body0_eq]
  unfold spec_l20Record.body0
  simp only [env_C, env_pick, env_buildSlice, env_bin, env_extract, env_append]
  cases d with
  | zero =>
    repeat (first | with_reducible refine wF ?_ | with_reducible refine wg0 rfl ?_ | with_reducible refine wpF ?_ | with_reducible refine wsm ?_ | with_reducible refine wgtrF (by omega) ?_ | rw [kLoop_exit] | dsimp only)
    exact leave (.inl rfl)
  | succ d =>
    cases hbo : boardB r cc with
    | false =>
      rw [hbo] at hB
      repeat (first | with_reducible refine wF ?_ | with_reducible refine wg1 rfl ?_ | with_reducible refine wpT ?_ | with_reducible refine wsm ?_ | with_reducible refine wbd (by assumption) ?_ | with_reducible refine wgtrT (by omega) ?_ | rw [kLoop_exit] | dsimp only)
      exact leave (.inr hbo)
    | true =>
    rw [hbo] at hB
    clear leave
    obtain ⟨R, C, rfl, rfl, hBo⟩ := boardB_nat hbo
    have ⟨b1, b2, b3, b4, b9⟩ := hBo
    have hRC : 1 ≤ R * C := Nat.mul_pos (by omega) (by omega)
    obtain ⟨v6, h6, e6, r6, ok6, d1, d2, _⟩ := pick_calls g lf n (by omega) ((R * C : Nat) : Int) r5 (by omega) (by omega)
    have hv6 := d2 (by omega)
    have oA6 := oA.only1 ok6 (Nat.lt_succ_self _)
    have oB6 := oB.only ok6 (.inr (by omega))
    obtain ⟨q7, h7, e7, o7, k7⟩ := specPlayed_calls g lf n (by omega) (R : Int) (C : Int) v6 (T : Int) oB6.int (by omega) (by omega) hlf
    have hpl := playedL_length (R : Int) (C : Int) xs v6 (T : Int)
    have r7 := r6.keep k7 r6.lt
    have oA7 : Apart (id + 1) h6.length h7.length h7 q ms := by
      obtain ⟨a, b, o, i1, i2, i3⟩ := oA6
      exact ⟨a, b, o.keep (k7.mono i3), i1, .inl i3, Nat.le_trans i3 k7.1⟩
    have hid6 := r6.lt
    have hid7 := r7.lt
    have k57 : Keep id h h7 := k5.trans (ok6.keep.trans (k7.mono (by omega)))
    cases hmv : moveL (R : Int) (C : Int) xs v6 (T : Int) with
    | false =>
      rw [hmv] at e7
      repeat (first | with_reducible refine wT ?_ | with_reducible refine wF ?_ | with_reducible refine wg1 rfl ?_ | with_reducible refine wpT ?_ | with_reducible refine wsm ?_ | with_reducible refine wx0 ?_ | with_reducible refine wx1 ?_ | with_reducible refine wbd (by assumption) ?_ | with_reducible refine wsub1 (by omega) (by omega) ?_ | with_reducible refine wmulN (by omega) ?_ | with_reducible refine wgtrT (by omega) ?_ | dsimp only)
      exact next _ _ (Nat.lt_succ_self d) ⟨T, ms, xs, q, p, _, h7, rfl, hT, by omega, hxl, hme, ⟨c1, c2, hc0, Nat.le_trans hc12 (by rw [← ok6.1]; exact k7.1), oA6.keep k7, oB6.keep (k7.mono (by rw [ok6.1]; exact hc12))⟩, r7, by omega, k57⟩
    | true =>
      rw [hmv] at e7
      repeat (first | with_reducible refine wT ?_ | with_reducible refine wg1 rfl ?_ | with_reducible refine wpT ?_ | with_reducible refine wsm ?_ | with_reducible refine wx0 ?_ | with_reducible refine wx1 ?_ | with_reducible refine wbd (by assumption) ?_ | with_reducible refine wmulN (by omega) ?_ | with_reducible refine wgtrT (by omega) ?_ | dsimp only)
      refine wapA oA7 o7.b hid7 (Nat.le_refl _) (by omega) fun p' h8 oA8 oB8 k8 => ?_
      have h78 : h7.length ≤ h8.length := k8.1
      have ho8 := other_W g lf n (by omega) h8 hT
      repeat (first | with_reducible refine wbd (by assumption) ?_ | with_reducible refine wsub1 (by omega) (by omega) ?_ | dsimp only)
      refine next _ _ (Nat.lt_succ_self d) ⟨3 - T, _, _, p', q7, _, h8, rfl, by omega, by rw [List.length_append]; simp; omega, by omega, fun e he => ?_, ⟨_, _, hid6, h78, oA8, oB8⟩, r7.keep k8 (Nat.lt_succ_self _), by omega, k57.trans (k8.mono (Nat.le_succ _))⟩
      rcases List.mem_append.1 he with he | he
      · exact hme e he
      · rw [List.mem_singleton.1 he]; omega

theorem drawSlipsOf_W {p : PV} {ys : List Int} {h : PHeap} (N : Nat) (hN : 11 ≤ N) (ha : Arg h p ys) (hlf : 1000 < lf) :
    ∃ (r c : Int) (q : PV) (ms : List Int) (h' : PHeap), CL g lf N fn_spec_DrawSlipsOf [p] h = some (.tup [.int .i64 r, .int .i64 c, q], h') ∧ Keep h.length h h' ∧ OwnSl (h.length + 1) h' q ms ∧ ms.length ≤ 11 ∧ (∀ e ∈ ms, -1 ≤ e ∧ e ≤ 9) ∧ -1 ≤ r ∧ r ≤ 5 ∧ -1 ≤ c ∧ c ≤ 5 := by
  obtain ⟨n, rfl⟩ : ∃ n, N = n + 1 := ⟨N - 1, by omega⟩
  have : W (CL g lf (n + 1) fn_spec_DrawSlipsOf [p] h) fun v h' => ∃ (r c : Int) (q : PV) (ms : List Int), v = .tup [.int .i64 r, .int .i64 c, q] ∧ Keep h.length h h' ∧ OwnSl (h.length + 1) h' q ms ∧ ms.length ≤ 11 ∧ (∀ e ∈ ms, -1 ≤ e ∧ e ≤ 9) ∧ -1 ≤ r ∧ r ≤ 5 ∧ -1 ≤ c ∧ c ≤ 5 := by
    obtain ⟨h1, e1, r1, k1⟩ := open_calls g lf n (by omega) ha
    rw [spec_DrawSlipsOf.call_eq]
    unfold spec_DrawSlipsOf.main
    simp only [env_C, env_extract]
    repeat (first | with_reducible refine wbd (by assumption) ?_ | dsimp only)
    refine wcall (record_W g lf n (by omega) 12 (by omega) (by omega) r1 (by omega) hlf) fun v h2 ⟨r, c, q, ms, m', hv, r2, hm2, k2, o2, hl, he, hb⟩ => ?_
    subst hv
    repeat (first | with_reducible refine wrI ?_ | with_reducible refine wx0 ?_ | with_reducible refine wx1 ?_ | with_reducible refine wx2 ?_ | (with_reducible refine wresO o2 ?_) | dsimp only)
    exact W.ret ⟨r, c, q, ms, rfl, k1.trans k2, o2, hl, he, hb⟩
  obtain ⟨v, h', e, r, c, q, ms, rfl, rest⟩ := this
  exact ⟨r, c, q, ms, h', e, rest⟩

end Go.Proofs.YtpaehbfknlpkbacDoor

/- Laws of chapter 11 over what the program's functions are asked to compute. -/
set_option maxRecDepth 20000
namespace Go.Proofs.YtpaehbfknlpkbacDoor
open Go Go.Ip G

/-! ### the beginning of a list, copied -/
def Pre (h : PHeap) (p : PV) (xs : List Int) (k : Nat) : Prop := (p = .nilsl ∧ xs = []) ∨ ∃ id, p = .sl id 0 k ∧ h[id]? = some (.own 1 (xs.map (.int .i64)))
theorem OwnSl.pre {n : Nat} {h : PHeap} {p : PV} {xs : List Int} (s : OwnSl n h p xs) : Pre h p xs xs.length := by
  rcases s with s | ⟨id, _, h2, h3⟩
  · exact .inl s
  · exact .inr ⟨id, h2, h3⟩
variable (g : Nat → PV) (lf n : Nat)

theorem fnRecordTurned_calls (hR : RecordOkOk g lf) (hS : SlipsOk g lf) {p : PV} {ys : List Int} {h : PHeap} (N : Nat) (hN : 55 ≤ N) (ha : Arg h p ys) (hlf : 1000 < lf) (ht : TabOk g h) :
    ∃ h', CL g lf N fn_laws_FnRecordTurned [p] h = some (.bool true, h') := by
  obtain ⟨n, rfl⟩ : ∃ n, N = n + 1 := ⟨N - 1, by omega⟩
  apply W.yes
  rw [laws_FnRecordTurned.call_eq]
  unfold laws_FnRecordTurned.main
  simp only [env_C, env_lf, env_buildSlice, env_bin, env_extract, env_len]
  have hlenp : lenP Tryd.prog 22 p = some (.int .i64 ys.length) := (ha.1 h (Keep.refl _ _)).len tyB
  by_cases hbig : (1048576 : Int) < (ys.length : Int)
  · repeat (first | with_reducible refine wT ?_ | with_reducible refine wrB ?_ | with_reducible refine wbd (by assumption) ?_ | with_reducible refine wgtrT (by omega) ?_)
    exact W.ret rfl
  obtain ⟨r, c, q, ms, h1, e1, k1, oq, hl, hme, hr1, hr2, hc1, hc2⟩ := drawSlipsOf_W g lf n (by omega) ha hlf
  have htF := tabF ht k1
  have hq : Fix h1.length h1 q ms := oq.int.fix
  have hb1 : h1.length ≤ h1.length := Nat.le_refl _
  have k0 : Keep h1.length h1 h1 := Keep.refl _ _
  have hal : ∀ h2, CL g lf n fn_laws_alive [] h2 = some (.bool true, h2) := fun h2 => alive_calls g lf n (by omega) h2
  have hbo : ∀ h2, CL g lf n fn_spec_BoardOk [.int .i64 r, .int .i64 c] h2 = some (.bool (boardB r c), h2) := fun h2 => specBoardOk_N g lf n (by omega) h2 r c
  have hmb := mul_bound hr1 hr2 hc1 hc2
  repeat (first | with_reducible refine wF ?_ | with_reducible refine wx0 ?_ | with_reducible refine wx1 ?_ | with_reducible refine wx2 ?_ | with_reducible refine wbd (by assumption) ?_ | (refine wempty fun q2 h2 o2 k2 => ?_) | with_reducible refine wgtrF (by omega) ?_ | dsimp only)
  try dsimp only at o2 k2
  refine loopW (fun m s => ∃ (k : Nat) (acc : List Int) (q3 : PV) (h3 : PHeap), s = laws_FnRecordTurned.st0 (.int .i64 r) (.int .i64 c) q q3 (.int .i64 (k : Int)) h3 ∧ k + m = ms.length ∧ acc = turnedL r c (ms.take k) ∧ OwnSl h1.length h3 q3 acc ∧ Keep h1.length h1 h3) ?_ lf ms.length _ (by omega) ⟨0, [], q2, h2, rfl, by omega, rfl, o2, k2⟩
  rintro n1 m s ⟨k, acc, q3, h3, rfl, hkm, hacc, o3, k3⟩ next
  have hlenq := (hq _ k3).len'
  have hal' : acc.length ≤ 11 := by rw [hacc]; unfold turnedL; rw [List.length_map, List.length_take]; omega
  rw [laws_FnRecordTurned.body0_eq]
  unfold laws_FnRecordTurned.body0
  simp only [env_buildSlice, env_load, env_bin, env_indexAddr, env_len, env_append]
  cases m with
  | succ m =>
    have hk : k < ms.length := by omega
    have hmk := hme ms[k] (List.getElem_mem hk)
    repeat (first | with_reducible refine wT ?_ | with_reducible refine wbd (by assumption) ?_ | with_reducible refine wlssT (by omega) ?_ | with_reducible refine wsub (by omega) ?_ | with_reducible refine wmul (by omega) ?_)
    refine wat (hq _ k3) hk fun a ea => ?_
    repeat (first | with_reducible refine wbd (by assumption) ?_ | with_reducible refine wsub (by omega) ?_)
    refine wap o3 k3.1 (by omega) fun q4 h4 o4 k4 => ?_
    repeat (first | with_reducible refine wadd1 (by omega) ?_ | dsimp only)
    refine next _ _ (Nat.lt_succ_self m) ⟨k + 1, _, q4, h4, rfl, by omega, ?_, o4, k3.trans k4⟩
    rw [hacc, List.take_succ_eq_append_getElem hk]
    unfold turnedL
    rw [List.map_append]; rfl
  | zero =>
    obtain rfl : k = ms.length := by omega
    rw [List.take_length] at hacc
    subst hacc
    obtain ⟨h5, e5, k5⟩ := hR n (by omega) r c (htF _ k3) o3.int (by omega) (by omega)
    obtain ⟨h5', e5', k5'⟩ := hR n (by omega) r c (htF _ k3) (hq _ k3) (by omega) (by omega)
    cases hb : boardB r c with
    | false =>
      rw [hb] at hbo
      have hrb : recB r c ms = false := by unfold recB; rw [hb]; rfl
      rw [hrb] at e5'
      clear e5
      repeat (first | with_reducible refine wT ?_ | with_reducible refine wF ?_ | with_reducible refine wg1 rfl ?_ | with_reducible refine wpT ?_ | with_reducible refine wnF ?_ | with_reducible refine wrB ?_ | with_reducible refine wbd (by assumption) ?_ | (with_reducible refine wbd (hbo _) ?_) | (with_reducible refine wbd (hal _) ?_) | with_reducible refine wlssF (by omega) ?_ | rw [kLoop_exit] | rw [laws_FnRecordTurned.after0_se0_3_4_5_6_7_21] | dsimp only | simp only [env_C, env_Y, env_g, env_lf, env_pick, env_alloc, env_box, env_build, env_buildSlice, env_load, env_store, env_ptr, env_bin, env_un, env_conv, env_make, env_slice, env_fieldAddr, env_field, env_indexAddr, env_index, env_extract, env_len, env_append, env_max, env_min, env_makeMap, env_lookup, env_update, env_clos, env_bstr, env_ext])
      exact W.ret rfl
    | true =>
      rw [hb] at hbo
      clear e5'
      obtain ⟨ht1, ht2⟩ := rec_turned hb ms
      rw [ht1] at e5
      have k35 := k3.trans (k5.mono k3.1)
      have o35 := o3.keep k5
      obtain ⟨h6, e6, k6⟩ := hR n (by omega) r c (htF _ k35) (hq _ k35) (by omega) (by omega)
      have k36 := k35.trans (k6.mono k35.1)
      have o36 := o35.keep k6
      obtain ⟨q7, h7, e7, o7, k7⟩ := hS n (by omega) r c (htF _ k36) o36.int (by omega) (by omega)
      rw [ht2] at o7
      have k37 := k36.trans (k7.mono k36.1)
      obtain ⟨q8, h8, e8, o8, k8⟩ := hS n (by omega) r c (htF _ k37) (hq _ k37) (by omega) (by omega)
      have hsl := slipsL_length r c ms
      have e9 := sameInts_N g lf n (by omega) (o7.keep k8).int o8.int (by omega) (by omega)
      rw [decide_eq_true rfl] at e9
      repeat (first | with_reducible refine wF ?_ | with_reducible refine wg1 rfl ?_ | with_reducible refine wpT ?_ | with_reducible refine wnT ?_ | with_reducible refine wsm ?_ | with_reducible refine wrB ?_ | with_reducible refine wbd (by assumption) ?_ | (with_reducible refine wbd (hbo _) ?_) | (with_reducible refine wbd (hal _) ?_) | (with_reducible refine weqlBB ?_) | with_reducible refine wlssF (by omega) ?_ | rw [kLoop_exit] | rw [laws_FnRecordTurned.after0_se0_3_4_5_6_7_21] | dsimp only | simp only [env_C, env_Y, env_g, env_lf, env_pick, env_alloc, env_box, env_build, env_buildSlice, env_load, env_store, env_ptr, env_bin, env_un, env_conv, env_make, env_slice, env_fieldAddr, env_field, env_indexAddr, env_index, env_extract, env_len, env_append, env_max, env_min, env_makeMap, env_lookup, env_update, env_clos, env_bstr, env_ext])
      exact W.ret rfl

end Go.Proofs.YtpaehbfknlpkbacDoor

/- Texts that are cut: where a byte is first, how often it is there, the pieces; the texts of boards, and records that are read. -/
set_option maxRecDepth 20000
namespace Go.Proofs.YtpaehbfknlpkbacDoor
open Go Go.Ip

/-! ### texts of boards -/
end Go.Proofs.YtpaehbfknlpkbacDoor

/- The program's chapter 2: Joins, GapOf, GroupOf, Filled and GapCells compute what the model's do. -/
set_option maxRecDepth 20000
namespace Go.Proofs.YtpaehbfknlpkbacDoor
open Go Go.Ip G

variable (g : Nat → PV) (lf n : Nat)

theorem joinsOk (hlf : 1000 < lf) : JoinsOk g lf := by
  intro N hN r c pl xs p h ht hp hl hf
  obtain ⟨n, rfl⟩ : ∃ n, N = n + 1 := ⟨N - 1, by omega⟩
  have ht' : Tab g h := ht.1
  have hpos := positionOk_N g lf n (by omega) r c hp (by omega) hf
  have hplay := playerOk_W g lf n (by omega) h pl
  have : W (CL g lf (n + 1) fn_impl_Joins [.int .i64 r, .int .i64 c, p, .int .i64 pl] h) fun v h' => v = .bool (joinsL r c xs pl) ∧ Keep h.length h h' := by
    rw [impl_Joins.call_eq]
    unfold impl_Joins.main
    simp only [env_C, env_pick, env_bin, env_un, env_extract]
    unfold joinsL
    cases hb : posB r c xs with
    | false =>
      rw [hb] at hpos
      repeat (first | with_reducible refine wT ?_ | with_reducible refine wg0 rfl ?_ | with_reducible refine wpT ?_ | with_reducible refine wnF ?_ | with_reducible refine wsm ?_ | with_reducible refine wrB ?_ | with_reducible refine wbd (by assumption) ?_ | dsimp only)
      exact W.ret ⟨rfl, Keep.refl _ _⟩
    | true =>
      rw [hb] at hpos
      cases hpl : playerB pl with
      | false =>
        rw [hpl] at hplay
        repeat (first | with_reducible refine wT ?_ | with_reducible refine wg1 rfl ?_ | with_reducible refine wpF ?_ | with_reducible refine wnT ?_ | with_reducible refine wnF ?_ | with_reducible refine wpv ?_ | with_reducible refine wsm ?_ | with_reducible refine wrB ?_ | with_reducible refine wbd (by assumption) ?_ | dsimp only)
        exact W.ret ⟨rfl, Keep.refl _ _⟩
      | true =>
        rw [hpl] at hplay
        obtain ⟨R, C, hS⟩ := sides_of hb
        obtain ⟨P, rfl, hP⟩ := player_of hpl
        have hB := board_of_sides hS
        obtain ⟨rfl, rfl, _, _, _, _, h9, hlen, _⟩ := id hS
        have hst := set_lt9 hS (P : Int)
        have e1 := sidesOf_W g lf hB hP n (by omega) hlf h
        have e2 := setOf_W g lf (P : Int) hp (by omega) n (by omega) hlf
        have s1 := sideN_lt (P := P) (last := false) hB
        have s2 := sideN_lt (P := P) (last := true) hB
        have a1 : sideN R C P false &&& setL xs (P : Int) < 2 ^ 9 := Nat.and_lt_two_pow _ hst
        obtain ⟨h1, e3, k1⟩ := grown_W g lf hB a1 hst n (by omega) hlf ht'
        rw [grown_in] at e3
        have hgl := grow_lt (M := masksN R C) (fr := sideN R C P false) hst
        have hgl2 : growN (masksN R C) (setL xs (P : Int)) (sideN R C P false) &&& sideN R C P true < 2 ^ 9 := Nat.and_lt_two_pow _ s2
        repeat (first | with_reducible refine wF ?_ | with_reducible refine wg1 rfl ?_ | with_reducible refine wpF ?_ | with_reducible refine wnT ?_ | with_reducible refine wpv ?_ | with_reducible refine wsm ?_ | with_reducible refine wx0 ?_ | with_reducible refine wx1 ?_ | with_reducible refine wbd (by assumption) ?_ | with_reducible refine wand (by omega) (by omega) ?_ | dsimp only)
        show W _ fun v h' => v = .bool (true && true && joinsN R C P (setL xs (P : Int))) ∧ Keep h.length h h'
        unfold joinsN
        refine wneq (fun e => ?_) (fun e => ?_)
        · repeat (first | with_reducible refine wrB ?_)
          refine W.ret ⟨?_, k1⟩
          rw [decide_eq_false (by omega)]; rfl
        · repeat (first | with_reducible refine wrB ?_)
          refine W.ret ⟨?_, k1⟩
          rw [decide_eq_true (by omega)]; rfl
  obtain ⟨_, h', e, rfl, k⟩ := this
  exact ⟨h', e, k⟩

end Go.Proofs.YtpaehbfknlpkbacDoor

/- The least cell of a set, as the library finds it by its table of 64 bytes; and comparing a slice with nil, copying it. -/
set_option maxRecDepth 20000
namespace Go.Proofs.YtpaehbfknlpkbacDoor
open Go Go.Ip G

/-- The least number in a set of nine; nine if there is none. -/
def lowN (x : Nat) : Nat := ((List.range 9).find? fun k => x.testBit k).getD 9
def lsB (x : Nat) : Bool := x.testBit (lowN x) && decide (lowN x < 9) && (List.range (lowN x)).all (fun j => !x.testBit j) && (x &&& (x - 1) == without x (lowN x))
theorem ls_all : ((List.range 512).all fun x => x == 0 || lsB x) = true := by kernel_rfl
theorem low_ok {x : Nat} (hx : x < 2 ^ 9) (h0 : x ≠ 0) : x.testBit (lowN x) = true ∧ lowN x < 9 ∧ (∀ j, j < lowN x → x.testBit j = false) ∧ x &&& (x - 1) = without x (lowN x) := by
  have h := List.all_eq_true.1 ls_all x (List.mem_range.2 hx)
  have h1 : lsB x = true := by
    rcases Bool.or_eq_true_iff.1 h with h | h
    · exact absurd (by simpa using h) h0
    · exact h
  unfold lsB at h1
  simp only [Bool.and_eq_true, decide_eq_true_eq, beq_iff_eq] at h1
  obtain ⟨⟨⟨a, b⟩, c⟩, d⟩ := h1
  exact ⟨a, b, fun j hj => by have := List.all_eq_true.1 c j (List.mem_range.2 hj); simpa using this, d⟩

/-- What the library computes, step by step. -/
def isU (o : Option PV) (a : Nat) : Bool := match o with | some (.int .u64 (.ofNat b)) => b == a | _ => false
theorem isU_eq {o : Option PV} {a : Nat} (h : isU o a = true) : o = some (.int .u64 (a : Int)) := by
  unfold isU at h
  split at h
  · have := beq_iff_eq.1 h; subst this; rfl
  · cases h
def tz5 (x : Nat) : Nat := ((1 <<< lowN x) * 285870213051353865) % 2 ^ 64
def tz6 (x : Nat) : Nat := tz5 x / 2 ^ 58
noncomputable def tzB (x : Nat) : Bool := isU (unP .neg (.int .u64 (x : Int))) (2 ^ 64 - x) && (isU (binP Tryd.prog .and 79 (.int .u64 (x : Int)) (.int .u64 ((2 ^ 64 - x : Nat) : Int))) (1 <<< lowN x) &&
  (isU (binP Tryd.prog .mul 79 (.int .u64 ((1 <<< lowN x : Nat) : Int)) (.int .u64 285870213051353865)) (tz5 x) && (isU (binP Tryd.prog .shr 79 (.int .u64 (tz5 x : Int)) (.int .u64 58)) (tz6 x) && tab64N[tz6 x]? == some (lowN x))))
theorem tz_all : ((List.range 512).all fun x => x == 0 || tzB x) = true := by kernel_rfl
theorem tz_one {x : Nat} (hx : x < 2 ^ 9) (h0 : x ≠ 0) : tzB x = true := by
  have h := List.all_eq_true.1 tz_all x (List.mem_range.2 hx)
  rcases Bool.or_eq_true_iff.1 h with h | h
  · exact absurd (beq_iff_eq.1 h) h0
  · exact h
theorem tz_steps {x : Nat} (hx : x < 2 ^ 9) (h0 : x ≠ 0) : ∃ v3 v4 v5, ∃ i : Nat, unP .neg (.int .u64 (x : Int)) = some v3 ∧ binP Tryd.prog .and 79 (.int .u64 (x : Int)) v3 = some v4 ∧ binP Tryd.prog .mul 79 v4 (.int .u64 285870213051353865) = some v5 ∧
    binP Tryd.prog .shr 79 v5 (.int .u64 58) = some (.int .u64 (i : Int)) ∧ tab64N[i]? = some (lowN x) := by
  have h1 := tz_one hx h0
  unfold tzB at h1
  obtain ⟨a, h1⟩ := Bool.and_eq_true_iff.1 h1
  obtain ⟨b, h1⟩ := Bool.and_eq_true_iff.1 h1
  obtain ⟨c, h1⟩ := Bool.and_eq_true_iff.1 h1
  obtain ⟨d, h1⟩ := Bool.and_eq_true_iff.1 h1
  exact ⟨_, _, _, _, isU_eq a, isU_eq b, isU_eq c, isU_eq d, beq_iff_eq.1 h1⟩

theorem tyTzU : Tryd.prog.underlying 93 = some (.array 64 5) := by kernel_rfl
theorem tyTz1 : sizeT Tryd.prog 5 = some 1 := by kernel_rfl
theorem tyTzA : isAggT Tryd.prog 5 = some false := by kernel_rfl
theorem tzConv (l : Nat) (hl : l < 9) : convP Tryd.prog 5 3 (.int .u8 (l : Int)) = some (.int .i64 (l : Int)) := by
  have : convP Tryd.prog 5 3 (.int .u8 (l : Int)) = some (.int .i64 (IntKind.i64.wrap (l : Int))) := by kernel_rfl
  rw [this, wr (by omega)]
theorem tzConv2 (x : Nat) (hx : x < 2 ^ 9) : convP Tryd.prog 3 77 (.int .i64 (x : Int)) = some (.int .u64 (x : Int)) := by
  have : convP Tryd.prog 3 77 (.int .i64 (x : Int)) = some (.int .u64 (IntKind.u64.wrap (x : Int))) := by kernel_rfl
  rw [this]
  have : IntKind.u64.wrap (x : Int) = (x : Int) := by unfold IntKind.wrap; simp [IntKind.bits, IntKind.signed]; omega
  rw [this]

variable (g : Nat → PV) (lf n : Nat)

/-- The library's table is known to lie somewhere. -/
def Big (g : Nat → PV) : Prop := ∃ id, g 3 = .ptr id 0

theorem tz64_W {x : Nat} (hx : x < 2 ^ 9) (h0 : x ≠ 0) (hb : Big g) {h : PHeap} (ht : Tab64 g h) (N : Nat) (hN : 1 ≤ N) : CL g lf N fn_bits_TrailingZeros64 [.int .u64 (x : Int)] h = some (.int .i64 (lowN x : Int), h) := by
  obtain ⟨n, rfl⟩ : ∃ n, N = n + 1 := ⟨N - 1, by omega⟩
  obtain ⟨id, hg⟩ := hb
  have ho := ht id hg
  obtain ⟨v3, v4, v5, i, e3, e4, e5, e6, hi⟩ := tz_steps hx h0
  have hi64 : i < 64 := (List.getElem?_eq_some_iff.1 hi).1
  have e7 : indexAddrP Tryd.prog 93 (.ptr id 0) (.int .u64 (i : Int)) = some (.ptr id i) := by simp [indexAddrP, tyTzU, tyTz1]; omega
  have e8 : loadP Tryd.prog 5 (.ptr id i) h = some (.int .u8 (lowN x : Int)) := by
    simp [loadP, tyTzA, cellsAt, ho, PObj.get, tab64Cells, hi]
  have e9 := tzConv (lowN x) (low_ok hx h0).2.1
  have : W (CL g lf (n + 1) fn_bits_TrailingZeros64 [.int .u64 (x : Int)] h) fun v h' => v = .int .i64 (lowN x : Int) ∧ h' = h := by
    rw [bits_TrailingZeros64.call_eq]
    unfold bits_TrailingZeros64.main
    simp only [env_g, env_load, env_bin, env_un, env_conv, env_indexAddr]
    refine weqlF (by omega) ?_
    rw [hg]
    repeat (first | with_reducible refine wF ?_ | with_reducible refine wrI ?_ | with_reducible refine wbd (by assumption) ?_)
    exact W.ret ⟨rfl, rfl⟩
  obtain ⟨_, _, e, rfl, rfl⟩ := this
  exact e

theorem leastIn_W {x : Nat} (hx : x < 2 ^ 9) (h0 : x ≠ 0) (hb : Big g) {h : PHeap} (ht : Tab64 g h) (N : Nat) (hN : 3 ≤ N) : CL g lf N fn_impl_leastIn [.int .i64 (x : Int)] h = some (.int .i64 (lowN x : Int), h) := by
  obtain ⟨n, rfl⟩ : ∃ n, N = n + 1 := ⟨N - 1, by omega⟩
  obtain ⟨n, rfl⟩ : ∃ m, n = m + 1 := ⟨n - 1, by omega⟩
  have e1 := tzConv2 x hx
  have e2 := tz64_W g lf hx h0 hb ht n (by omega)
  have e3 : CL g lf (n + 1) fn_bits_TrailingZeros [.int .u64 (x : Int)] h = some (.int .i64 (lowN x : Int), h) := by
    have : W (CL g lf (n + 1) fn_bits_TrailingZeros [.int .u64 (x : Int)] h) fun v h' => v = .int .i64 (lowN x : Int) ∧ h' = h := by
      rw [bits_TrailingZeros.call_eq]
      unfold bits_TrailingZeros.main
      simp only [env_C, env_conv]
      repeat (first | with_reducible refine wF ?_ | with_reducible refine wrI ?_ | with_reducible refine wbd (by assumption) ?_ | dsimp only)
      exact W.ret ⟨rfl, rfl⟩
    obtain ⟨_, _, e, rfl, rfl⟩ := this
    exact e
  have : W (CL g lf (n + 1 + 1) fn_impl_leastIn [.int .i64 (x : Int)] h) fun v h' => v = .int .i64 (lowN x : Int) ∧ h' = h := by
    rw [impl_leastIn.call_eq]
    unfold impl_leastIn.main
    simp only [env_C, env_conv]
    repeat (first | with_reducible refine wrI ?_ | with_reducible refine wbd (by assumption) ?_ | dsimp only)
    exact W.ret ⟨rfl, rfl⟩
  obtain ⟨_, _, e, rfl, rfl⟩ := this
  exact e

/-- What a set loses with its least cell. -/
theorem f_drop {x : Nat} (hx : x < 2 ^ 9) (h0 : x ≠ 0) : binP Tryd.prog .sub 3 (.int .i64 (x : Int)) (.int .i64 1) = some (.int .i64 ((x - 1 : Nat) : Int)) ∧ binP Tryd.prog .and 3 (.int .i64 (x : Int)) (.int .i64 ((x - 1 : Nat) : Int)) = some (.int .i64 (without x (lowN x) : Int)) := by
  refine ⟨by rw [bin_sub, wr (by omega), show (x : Int) - 1 = ((x - 1 : Nat) : Int) by omega], ?_⟩
  rw [f_and (by omega) (by omega), (low_ok hx h0).2.2.2]
theorem without_lt9 {x k : Nat} (hx : x < 2 ^ 9) : without x k < 2 ^ 9 := by rw [← minusN_one]; exact minusN_lt hx
theorem without_less {x : Nat} (hx : x < 2 ^ 9) (h0 : x ≠ 0) : without x (lowN x) < x := by
  have h := (low_ok hx h0).2.2.2
  rw [← h]
  have : x &&& (x - 1) ≤ x - 1 := Nat.and_le_right
  omega

/-! ### slices.Clone -/
theorem tySlB : isSliceT Tryd.prog 23 = true := by kernel_rfl
theorem wnilF {Q : PV → PHeap → Prop} {f : PV → Res} {i o l : Nat} (hf : W (f (.bool false)) Q) : W ((binP Tryd.prog .eql 23 (.sl i o l) .nilsl).bind f) Q := wbd (by simp [binP, tySlB]) hf

end Go.Proofs.YtpaehbfknlpkbacDoor

/- The program's search: structs and a map on the interpreter's heap; the sets' joining; what stands after a move. -/
set_option maxRecDepth 20000
namespace Go.Proofs.YtpaehbfknlpkbacDoor
open Go Go.Ip G

/-! ### objects by themselves, and what keeps all but one -/
def At (h : PHeap) (id : Nat) (l : List PV) : Prop := h[id]? = some (.own 1 l)
theorem At.lt {h : PHeap} {id : Nat} {l : List PV} (a : At h id l) : id < h.length := (List.getElem?_eq_some_iff.1 a).1
/-- All is as it was but the object m, and what is behind. -/
def KB (m : Nat) (h h' : PHeap) : Prop := h.length ≤ h'.length ∧ ∀ i, i < h.length → i ≠ m → h'[i]? = h[i]?
theorem KB.refl (m : Nat) (h : PHeap) : KB m h h := ⟨Nat.le_refl _, fun _ _ _ => rfl⟩
theorem KB.trans {m : Nat} {a b c : PHeap} (h : KB m a b) (k : KB m b c) : KB m a c := ⟨Nat.le_trans h.1 k.1, fun i hi hn => (k.2 i (Nat.lt_of_lt_of_le hi h.1) hn).trans (h.2 i hi hn)⟩
theorem Keep.kb {m : Nat} {a b : PHeap} (h : Keep a.length a b) : KB m a b := ⟨h.1, fun i hi _ => h.2 i hi⟩
theorem KB.keep {m n : Nat} {a b : PHeap} (h : KB m a b) (hm : n ≤ m) (hn : n ≤ a.length) : Keep n a b := ⟨h.1, fun i hi => h.2 i (Nat.lt_of_lt_of_le hi hn) (by omega)⟩
theorem At.keep {h h' : PHeap} {id : Nat} {l : List PV} (a : At h id l) (k : Keep h.length h h') : At h' id l := by unfold At; rw [k.2 id a.lt]; exact a
theorem At.kb {h h' : PHeap} {id m : Nat} {l : List PV} (a : At h id l) (k : KB m h h') (hn : id ≠ m) : At h' id l := by unfold At; rw [k.2 id a.lt hn]; exact a
def MapAt (h : PHeap) (m : Nat) (es : List (PV × PV)) : Prop := h[m]? = some (.mp es)
theorem MapAt.lt {h : PHeap} {m : Nat} {es : List (PV × PV)} (a : MapAt h m es) : m < h.length := (List.getElem?_eq_some_iff.1 a).1
theorem MapAt.keep {h h' : PHeap} {m : Nat} {es : List (PV × PV)} (a : MapAt h m es) (k : Keep h.length h h') : MapAt h' m es := by unfold MapAt; rw [k.2 m a.lt]; exact a
theorem MapAt.kb {h h' : PHeap} {id m : Nat} {es : List (PV × PV)} (a : MapAt h m es) (k : KB id h h') (hn : m ≠ id) : MapAt h' m es := by unfold MapAt; rw [k.2 m a.lt hn]; exact a
theorem At.ne {h : PHeap} {id m : Nat} {l : List PV} {es : List (PV × PV)} (a : At h id l) (b : MapAt h m es) : id ≠ m := by
  intro e; subst e; unfold At at a; unfold MapAt at b; rw [a] at b; cases b
theorem Fix.kb {b m : Nat} {h h' : PHeap} {p : PV} {xs : List Int} (s : Fix b h p xs) (k : KB m h h') (hb : b ≤ m) (hb2 : b ≤ h.length) : Fix b h' p xs := s.keep (k.keep hb hb2)

section
variable {Q : PV → PHeap → Prop} {h : PHeap}
/-- A new object. -/
theorem wnew {l : List PV} {x : Res} {f : PV × PHeap → Res} (hx : x = some (.ptr h.length 0, h ++ [.own 1 l])) (hf : ∀ h' id, At h' id l → Keep h.length h h' → h.length ≤ id → W (f (.ptr id 0, h')) Q) : W (x.bind f) Q := by
  rw [hx]
  exact hf _ _ (by unfold At; simp) (Keep.append _ _ _ (Nat.le_refl _)) (Nat.le_refl _)
/-- An object is written to. -/
theorem put_at {id : Nat} {l l' : List PV} (a : At h id l) : At (h.set id (.own 1 l')) id l' ∧ KB id h (h.set id (.own 1 l')) := by
  refine ⟨by unfold At; rw [List.getElem?_set_self a.lt], by simp, fun i _ hn => List.getElem?_set_ne (by omega)⟩
end

/-! ### types -/
theorem tyStA : isAggT Tryd.prog 47 = some true := by kernel_rfl
theorem tySt4 : sizeT Tryd.prog 47 = some 4 := by kernel_rfl
theorem tyStZ : zeroCellsT Tryd.prog 47 = some [.int .i64 0, .int .i64 0, .int .i64 0, .int .i64 0] := by kernel_rfl
theorem tyA3 : Tryd.prog.underlying 45 = some (.array 3 3) := by kernel_rfl
theorem tyA9 : Tryd.prog.underlying 63 = some (.array 9 3) := by kernel_rfl
theorem tyMp : Tryd.prog.underlying 62 = some (.map 47 3) := by kernel_rfl
theorem tyMpA : isAggT Tryd.prog 62 = some false := by kernel_rfl
theorem fSt0 (id : Nat) : fieldAddrP Tryd.prog 47 (.ptr id 0) 0 = some (.ptr id 0) := by kernel_rfl
theorem fSt1 (id : Nat) : fieldAddrP Tryd.prog 47 (.ptr id 0) 1 = some (.ptr id 3) := by kernel_rfl
theorem fs0 (id : Nat) : fieldAddrP Tryd.prog 65 (.ptr id 0) 0 = some (.ptr id 0) := by kernel_rfl
theorem fs1 (id : Nat) : fieldAddrP Tryd.prog 65 (.ptr id 0) 1 = some (.ptr id 9) := by kernel_rfl
theorem fs2 (id : Nat) : fieldAddrP Tryd.prog 65 (.ptr id 0) 2 = some (.ptr id 12) := by kernel_rfl
theorem fs3 (id : Nat) : fieldAddrP Tryd.prog 65 (.ptr id 0) 3 = some (.ptr id 15) := by kernel_rfl
theorem ia3 (id o i : Nat) (hi : i < 3) : indexAddrP Tryd.prog 45 (.ptr id o) (.int .i64 (i : Int)) = some (.ptr id (o + i)) := by simp [indexAddrP, tyA3, tySize]; omega
theorem ia9 (id o i : Nat) (hi : i < 9) : indexAddrP Tryd.prog 63 (.ptr id o) (.int .i64 (i : Int)) = some (.ptr id (o + i)) := by simp [indexAddrP, tyA9, tySize]; omega
theorem ld1 {h : PHeap} {id i : Nat} {l : List PV} {v : PV} (a : At h id l) (hv : l[i]? = some v) : loadP Tryd.prog 3 (.ptr id i) h = some v := by
  simp [loadP, tyAgg, cellsAt, show h[id]? = some (.own 1 l) from a, PObj.get, hv]
theorem ldM {h : PHeap} {id i : Nat} {l : List PV} {v : PV} (a : At h id l) (hv : l[i]? = some v) : loadP Tryd.prog 62 (.ptr id i) h = some v := by
  simp [loadP, tyMpA, cellsAt, show h[id]? = some (.own 1 l) from a, PObj.get, hv]
theorem st1 {h : PHeap} {id i : Nat} {l : List PV} {x : Int} (a : At h id l) (hi : i < l.length) : storeP Tryd.prog 3 (.ptr id i) (.int .i64 x) h = some (h.set id (.own 1 (l.set i (.int .i64 x)))) := by
  simp [storeP, show h[id]? = some (.own 1 l) from a, PV.cells, tySize, setCells]; omega

/-! ### what stands -/
def stC (f a b t : Nat) : List PV := [.int .i64 (f : Int), .int .i64 (a : Int), .int .i64 (b : Int), .int .i64 (t : Int)]
def stP (f a b t : Nat) : PV := .agg (stC f a b t)
theorem ldS {h : PHeap} {id f a b t : Nat} (o : At h id (stC f a b t)) : loadP Tryd.prog 47 (.ptr id 0) h = some (stP f a b t) := by
  simp [loadP, tyStA, tySt4, cellsAt, show h[id]? = some (.own 1 (stC f a b t)) from o, PObj.get, stC, stP]
theorem boxS (h : PHeap) (f a b t : Nat) : boxP (stP f a b t) h = some (.ptr h.length 0, h ++ [.own 1 (stC f a b t)]) := by simp [boxP, stP, stC, PV.cells, PV.oneCell]
theorem alS (h : PHeap) : allocP Tryd.prog 47 h = some (.ptr h.length 0, h ++ [.own 1 (stC 0 0 0 0)]) := by simp [allocP, tyStZ, stC]
theorem stS {h : PHeap} {id f a b t f' a' b' t' : Nat} (o : At h id (stC f' a' b' t')) : storeP Tryd.prog 47 (.ptr id 0) (stP f a b t) h = some (h.set id (.own 1 (stC f a b t))) := by
  simp [storeP, show h[id]? = some (.own 1 (stC f' a' b' t')) from o, stP, stC, PV.cells, PV.oneCell, tySt4, setCells]
theorem plainS {f a b t : Nat} : plainEq (stP f a b t) (stP f a b t) = true := plain_agg4

section
variable {Q : PV → PHeap → Prop} {h : PHeap} {id f a b t : Nat}
theorem wboxS {F : PV × PHeap → Res} (hf : ∀ h' id, At h' id (stC f a b t) → Keep h.length h h' → h.length ≤ id → W (F (.ptr id 0, h')) Q) : W ((boxP (stP f a b t) h).bind F) Q := wnew (boxS h f a b t) hf
theorem walS {F : PV × PHeap → Res} (hf : ∀ h' id, At h' id (stC 0 0 0 0) → Keep h.length h h' → h.length ≤ id → W (F (.ptr id 0, h')) Q) : W ((allocP Tryd.prog 47 h).bind F) Q := wnew (alS h) hf
theorem wstS {f' a' b' t' : Nat} (o : At h id (stC f' a' b' t')) {F : PHeap → Res} (hf : ∀ h', At h' id (stC f a b t) → KB id h h' → W (F h') Q) : W ((storeP Tryd.prog 47 (.ptr id 0) (stP f a b t) h).bind F) Q := by
  rw [stS o]; exact hf _ (put_at o).1 (put_at o).2
theorem wst1 {i : Nat} {l : List PV} {x : Int} (o : At h id l) (hi : i < l.length) {F : PHeap → Res} (hf : ∀ h', At h' id (l.set i (.int .i64 x)) → KB id h h' → W (F h') Q) : W ((storeP Tryd.prog 3 (.ptr id i) (.int .i64 x) h).bind F) Q := by
  rw [st1 o hi]; exact hf _ (put_at o).1 (put_at o).2
theorem wia3 {o i : Nat} (hi : i < 3) {F : PV → Res} (hf : W (F (.ptr id (o + i))) Q) : W ((indexAddrP Tryd.prog 45 (.ptr id o) (.int .i64 (i : Int))).bind F) Q := wbd (ia3 id o i hi) hf
theorem wia9 {o i : Nat} (hi : i < 9) {F : PV → Res} (hf : W (F (.ptr id (o + i))) Q) : W ((indexAddrP Tryd.prog 63 (.ptr id o) (.int .i64 (i : Int))).bind F) Q := wbd (ia9 id o i hi) hf
end

variable (g : Nat → PV) (lf n : Nat)

theorem exchanged_W (N : Nat) (hN : 1 ≤ N) (h : PHeap) {T : Nat} (hT : T = 1 ∨ T = 2) : CL g lf N fn_impl_exchanged [.int .i64 (T : Int)] h = some (.int .i64 ((3 - T : Nat) : Int), h) := by
  obtain ⟨n, rfl⟩ : ∃ n, N = n + 1 := ⟨N - 1, by omega⟩
  have : W (CL g lf (n + 1) fn_impl_exchanged [.int .i64 (T : Int)] h) fun v h' => v = .int .i64 ((3 - T : Nat) : Int) ∧ h' = h := by
    rw [impl_exchanged.call_eq]
    unfold impl_exchanged.main
    simp only [env_bin]
    rcases hT with rfl | rfl
    · repeat (first | with_reducible refine wT ?_ | with_reducible refine wrI ?_ | with_reducible refine weqlT (by omega) ?_)
      exact W.ret ⟨rfl, rfl⟩
    · repeat (first | with_reducible refine wT ?_ | with_reducible refine wF ?_ | with_reducible refine wrI ?_ | with_reducible refine weqlT (by omega) ?_ | with_reducible refine weqlF (by omega) ?_)
      exact W.ret ⟨rfl, rfl⟩
  obtain ⟨_, _, e, rfl, rfl⟩ := this
  exact e

theorem Keep.kbs {n m : Nat} {a b c : PHeap} (k : Keep n a b) (hn : n ≤ a.length) (k' : KB m b c) (hm : n ≤ m) : Keep n a c := k.trans (k'.keep hm (Nat.le_trans hn k.1))
theorem wia30 {Q : PV → PHeap → Prop} {id o : Nat} {F : PV → Res} (hf : W (F (.ptr id (o + 0))) Q) : W ((indexAddrP Tryd.prog 45 (.ptr id o) (.int .i64 0)).bind F) Q := wbd (ia3 id o 0 (by decide)) hf

theorem after_W {f a b t k : Nat} (hf : f < 2 ^ 9) (ha : a < 2 ^ 9) (hb : b < 2 ^ 9) (hk : k < 9) (ht : t = 1 ∨ t = 2) (N : Nat) (hN : 2 ≤ N) (h : PHeap) :
    W (CL g lf N fn_impl_standing_after [stP f a b t, .int .i64 (k : Int)] h) fun v h' => v = stP (without f k) (putA t k a) (putB t k b) (3 - t) ∧ Keep h.length h h' := by
  obtain ⟨n, rfl⟩ : ∃ n, N = n + 1 := ⟨N - 1, by omega⟩
  have hsl := shl_lt hk
  have e1 : ∀ h, CL g lf n fn_impl_exchanged [.int .i64 (t : Int)] h = some (.int .i64 ((3 - t : Nat) : Int), h) := fun h => exchanged_W g lf n (by omega) h ht
  rw [impl_standing_after.call_eq]
  unfold impl_standing_after.main
  simp only [env_C, env_alloc, env_box, env_load, env_store, env_bin, env_fieldAddr, env_indexAddr]
  refine wboxS fun h1 id o1 k1 l1 => ?_
  dsimp only
  refine walS fun h2 id2 o2 k2 l2 => ?_
  have o1' := o1.keep k2
  have hne : id2 ≠ id := by have := o1.lt; omega
  have kk2 : Keep h.length h h2 := k1.trans (k2.mono k1.1)
  repeat (first | (with_reducible refine wbd (fSt0 _) ?_) | (with_reducible refine wia30 ?_) | (with_reducible refine wbd (ld1 (by assumption) rfl) ?_) | with_reducible refine wshl (by omega) ?_ | with_reducible refine wandNot (by omega) (by omega) ?_ | dsimp only)
  refine wst1 o1' (show 0 + 0 < 4 by decide) fun h3 o3 k3 => ?_
  have o3 : At h3 id (stC (without f k) a b t) := o3
  have o23 := o2.kb k3 hne
  rcases ht with rfl | rfl
  · repeat (first | (with_reducible refine wbd (fSt0 _) ?_) | (with_reducible refine wbd (fSt1 _) ?_) | (with_reducible refine wia3 (by omega) ?_) | (with_reducible refine wbd (ld1 (by assumption) rfl) ?_) | with_reducible refine wshl (by omega) ?_ | with_reducible refine wor (by omega) (by omega) ?_)
    refine wst1 o3 (show 0 + 1 < 4 by decide) fun h4 o4 k4 => ?_
    have o4 : At h4 id (stC (without f k) (a ||| 1 <<< k) b 1) := o4
    have o24 := o23.kb k4 hne
    have e2 := e1 h4
    repeat (first | with_reducible refine wbd (by assumption) ?_ | (with_reducible refine wbd (fSt1 _) ?_) | (with_reducible refine wbd (ld1 (by assumption) rfl) ?_) | dsimp only)
    refine wst1 o4 (show 3 < 4 by decide) fun h5 o5 k5 => ?_
    have o5 : At h5 id (stC (without f k) (a ||| 1 <<< k) b (3 - 1)) := o5
    have o25 := o24.kb k5 hne
    repeat (first | (with_reducible refine wbd (ldS (by assumption)) ?_))
    refine wstS o25 fun h6 o6 k6 => ?_
    repeat (first | (with_reducible refine wbd (ldS (by assumption)) ?_))
    exact W.ret ⟨rfl, (((kk2.kbs (Nat.le_refl _) k3 l1).kbs (Nat.le_refl _) k4 l1).kbs (Nat.le_refl _) k5 l1).kbs (Nat.le_refl _) k6 (Nat.le_trans k1.1 l2)⟩
  · repeat (first | (with_reducible refine wbd (fSt0 _) ?_) | (with_reducible refine wbd (fSt1 _) ?_) | (with_reducible refine wia3 (by omega) ?_) | (with_reducible refine wbd (ld1 (by assumption) rfl) ?_) | with_reducible refine wshl (by omega) ?_ | with_reducible refine wor (by omega) (by omega) ?_)
    refine wst1 o3 (show 0 + 2 < 4 by decide) fun h4 o4 k4 => ?_
    have o4 : At h4 id (stC (without f k) a (b ||| 1 <<< k) 2) := o4
    have o24 := o23.kb k4 hne
    have e2 := e1 h4
    repeat (first | with_reducible refine wbd (by assumption) ?_ | (with_reducible refine wbd (fSt1 _) ?_) | (with_reducible refine wbd (ld1 (by assumption) rfl) ?_) | dsimp only)
    refine wst1 o4 (show 3 < 4 by decide) fun h5 o5 k5 => ?_
    have o5 : At h5 id (stC (without f k) a (b ||| 1 <<< k) (3 - 2)) := o5
    have o25 := o24.kb k5 hne
    repeat (first | (with_reducible refine wbd (ldS (by assumption)) ?_))
    refine wstS o25 fun h6 o6 k6 => ?_
    repeat (first | (with_reducible refine wbd (ldS (by assumption)) ?_))
    exact W.ret ⟨rfl, (((kk2.kbs (Nat.le_refl _) k3 l1).kbs (Nat.le_refl _) k4 l1).kbs (Nat.le_refl _) k5 l1).kbs (Nat.le_refl _) k6 (Nat.le_trans k1.1 l2)⟩

/-! ### a board's search -/
def nearV (R C j : Nat) : Nat := if j < R * C then wideN R C (1 <<< j) else 0
def srchV (R C : Nat) : List Nat := (List.range 9).map (nearV R C) ++ [0, sideN R C 1 false, sideN R C 2 false, 0, sideN R C 1 true, sideN R C 2 true]
def srchC (R C m : Nat) : List PV := (srchV R C).map (fun x : Nat => .int .i64 (x : Int)) ++ [.mapv m]
theorem srch_near (R C m k : Nat) (hk : k < 9) : (srchC R C m)[0 + k]? = some (.int .i64 (nearV R C k : Int)) := by
  rw [Nat.zero_add]
  unfold srchC srchV
  rw [List.map_append, List.append_assoc, List.getElem?_append_left (by simp; omega)]
  simp [hk]
theorem srch_first (R C m : Nat) {P : Nat} (hP : P = 1 ∨ P = 2) : (srchC R C m)[9 + P]? = some (.int .i64 (sideN R C P false : Int)) := by
  rcases hP with rfl | rfl <;> rfl
theorem srch_last (R C m : Nat) {P : Nat} (hP : P = 1 ∨ P = 2) : (srchC R C m)[12 + P]? = some (.int .i64 (sideN R C P true : Int)) := by
  rcases hP with rfl | rfl <;> rfl
theorem srch_map (R C m : Nat) : (srchC R C m)[15]? = some (.mapv m) := rfl

theorem nearV_lt {R C j : Nat} (hB : BoardOf R C) (hj : j < 9) : nearV R C j < 2 ^ 9 := by
  unfold nearV; split
  · exact wide_lt hB (shl_lt hj)
  · decide
theorem nearV_bit {R C k j : Nat} (hB : BoardOf R C) (hk : k < R * C) : (nearV R C k).testBit j = true ↔ j = k ∨ Adj (masksN R C) k j := by
  unfold nearV
  rw [if_pos hk, wide_bit hB, one_bit]
  constructor
  · rintro (h | ⟨i, h1, h2⟩)
    · exact .inl (by simpa using h)
    · rw [one_bit] at h1
      have : i = k := by simpa using h1
      exact .inr (this ▸ h2)
  · rintro (h | h)
    · exact .inl (by simpa using h)
    · exact .inr ⟨k, by rw [one_bit]; simp, h⟩
theorem bit_lt {x n j : Nat} (hx : x < 2 ^ n) (hj : x.testBit j = true) : j < n := by
  apply Classical.byContradiction
  intro hn
  rw [Nat.testBit_lt_two_pow (Nat.lt_of_lt_of_le hx (Nat.pow_le_pow_right (by decide) (by omega)))] at hj; cases hj

theorem joins_W {R C P own : Nat} (hB : BoardOf R C) (hP : P = 1 ∨ P = 2) (hown : own < 2 ^ (R * C)) (hbig : Big g) {h : PHeap} {s m : Nat} (hs : At h s (srchC R C m)) (ht : Tab64 g h) (N : Nat) (hN : 4 ≤ N) (hlf : 1000 < lf) :
    CL g lf N fn_impl_search_joins [.ptr s 0, .int .i64 (own : Int), .int .i64 (P : Int)] h = some (.bool (joinsN R C P own), h) := by
  obtain ⟨n, rfl⟩ : ∃ n, N = n + 1 := ⟨N - 1, by omega⟩
  have h9 := hB.2.2.2.2
  have hown9 : own < 2 ^ 9 := Nat.lt_of_lt_of_le hown (Nat.pow_le_pow_right (by decide) h9)
  have hP3 : P < 3 := by omega
  have s1 := sideN_lt (P := P) (last := false) hB
  have s2 := sideN_lt (P := P) (last := true) hB
  have hS9 : own &&& sideN R C P false < 2 ^ 9 := Nat.and_lt_two_pow _ s1
  have : W (CL g lf (n + 1) fn_impl_search_joins [.ptr s 0, .int .i64 (own : Int), .int .i64 (P : Int)] h) fun v h' => v = .bool (joinsN R C P own) ∧ h' = h := by
    rw [impl_search_joins.call_eq]
    unfold impl_search_joins.main
    simp only [env_lf, env_load, env_ptr, env_bin, env_fieldAddr, env_indexAddr]
    repeat (first | with_reducible refine wptr ?_ | (with_reducible refine wbd (fs1 _) ?_) | (with_reducible refine wia3 (by omega) ?_) | (with_reducible refine wbd (ld1 (by assumption) (srch_first _ _ _ hP)) ?_) | with_reducible refine wand (by omega) (by omega) ?_)
    obtain ⟨S, hS⟩ : ∃ S, S = own &&& sideN R C P false := ⟨_, rfl⟩
    rw [← hS] at hS9 ⊢
    have hSo : ∀ j, S.testBit j = true → own.testBit j = true := fun j hj => by
      rw [hS, Nat.testBit_and, Bool.and_eq_true] at hj; exact hj.1
    refine loopW (fun m' st => ∃ X w : Nat, st = impl_search_joins.st0 (.ptr s 0) (.int .i64 (own : Int)) (.int .i64 (P : Int)) (.int .i64 (X : Int)) (.int .i64 (w : Int)) h ∧ X < 2 ^ 9 ∧ (∀ j, w.testBit j = true → X.testBit j = true) ∧ (∀ j, X.testBit j = true → own.testBit j = true) ∧
      (∀ j, S.testBit j = true → X.testBit j = true) ∧ (∀ j, X.testBit j = true → Reach (masksN R C) (S ||| own) S j) ∧ (∀ k j, X.testBit k = true → w.testBit k = false → Adj (masksN R C) k j → own.testBit j = true → X.testBit j = true) ∧ m' = (512 - X) + (if w = 0 then 0 else 1)) ?_ lf (512 - S + (if S = 0 then 0 else 1)) _ (by split <;> omega)
      ⟨S, S, rfl, hS9, fun _ h => h, hSo, fun _ h => h, fun j hj => .start hj (by rw [Nat.testBit_or, hj]; rfl), fun k j h1 h2 _ _ => (by rw [h1] at h2; cases h2), rfl⟩
    rintro n1 m1 st ⟨X, w, rfl, hX, hw, hXo, hSX, hXr, hc, hm⟩ next
    rw [impl_search_joins.body0_eq]
    unfold impl_search_joins.body0
    simp only [env_lf, env_bin]
    by_cases e : w = 0
    · subst e
      repeat (first | with_reducible refine wF ?_ | with_reducible refine wptr ?_ | (with_reducible refine wbd (fs2 _) ?_) | (with_reducible refine wia3 (by omega) ?_) | (with_reducible refine wbd (ld1 (by assumption) (srch_last _ _ _ hP)) ?_) | with_reducible refine wand (by omega) (by omega) ?_ | with_reducible refine wneqF (by omega) ?_ | rw [kLoop_exit] | rw [impl_search_joins.after0_se0_0_1_2_7_8_21] | simp only [env_C, env_Y, env_g, env_lf, env_pick, env_alloc, env_box, env_build, env_buildSlice, env_load, env_store, env_ptr, env_bin, env_un, env_conv, env_make, env_slice, env_fieldAddr, env_field, env_indexAddr, env_index, env_extract, env_len, env_append, env_max, env_min, env_makeMap, env_lookup, env_update, env_clos, env_bstr, env_ext])
      have hXg : X = growN (masksN R C) own (sideN R C P false) := by
        rw [grown_is hS9 hown9 hSX hXr fun k j h1 h2 h3 => hc k j h1 (Nat.zero_testBit _) h2 h3, hS, Nat.and_comm]
        exact grown_in
      unfold joinsN
      rw [← hXg]
      refine wneq (fun e => ?_) (fun e => ?_)
      · repeat (first | with_reducible refine wrB ?_)
        refine W.ret ⟨?_, rfl⟩
        rw [decide_eq_false (by omega)]; rfl
      · repeat (first | with_reducible refine wrB ?_)
        refine W.ret ⟨?_, rfl⟩
        rw [decide_eq_true (by omega)]; rfl
    · have hw9 : w < 2 ^ 9 := Nat.lt_of_le_of_lt (sub_le hw) hX
      have hwc : ∀ k, w.testBit k = true → k < R * C := fun k hk => bit_lt hown (hXo k (hw k hk))
      repeat (first | with_reducible refine wT ?_ | with_reducible refine wneqT (by omega) ?_)
      refine loopW (fun m' st => ∃ wd r : Nat, st = impl_search_joins.st1 (.ptr s 0) (.int .i64 (own : Int)) (.int .i64 (P : Int)) (.int .i64 (X : Int)) (.int .i64 (wd : Int)) (.int .i64 (r : Int)) h ∧ wd < 2 ^ 9 ∧ r < 2 ^ 9 ∧ (∀ j, r.testBit j = true → w.testBit j = true) ∧
        (∀ j, wd.testBit j = true ↔ ∃ k, w.testBit k = true ∧ r.testBit k = false ∧ (nearV R C k).testBit j = true) ∧ m' = r) ?_ lf w _ (by omega) ⟨0, w, rfl, by decide, hw9, fun _ h => h, fun j => ⟨fun h => (by rw [Nat.zero_testBit] at h; cases h), fun ⟨k, h1, h2, _⟩ => (by rw [h1] at h2; cases h2)⟩, rfl⟩
      rintro n2 m2 st ⟨wd, r, rfl, hwd, hr, hrw, hwb, hm2⟩ next2
      rw [impl_search_joins.body1_eq]
      unfold impl_search_joins.body1
      simp only [env_C, env_load, env_ptr, env_bin, env_fieldAddr, env_indexAddr]
      by_cases e2 : r = 0
      · subst e2
        have hal : wd &&& own < 2 ^ 9 := Nat.and_lt_two_pow _ hown9
        have hml : minusN (wd &&& own) X < 2 ^ 9 := minusN_lt hal
        repeat (first | with_reducible refine wF ?_ | with_reducible refine wand (by omega) (by omega) ?_ | with_reducible refine wor (by omega) (by omega) ?_ | with_reducible refine wandNot (by omega) (by omega) ?_ | with_reducible refine wneqF (by omega) ?_ | rw [kLoop_exit] | rw [impl_search_joins.after1_se2_0_1_2_7_9_10_24] | simp only [env_C, env_Y, env_g, env_lf, env_pick, env_alloc, env_box, env_build, env_buildSlice, env_load, env_store, env_ptr, env_bin, env_un, env_conv, env_make, env_slice, env_fieldAddr, env_field, env_indexAddr, env_index, env_extract, env_len, env_append, env_max, env_min, env_makeMap, env_lookup, env_update, env_clos, env_bstr, env_ext])
        obtain ⟨w', hw'⟩ : ∃ w', w' = minusN (wd &&& own) X := ⟨_, rfl⟩
        have hb : ∀ j, w'.testBit j = true ↔ (w.testBit j = true ∨ ∃ k, w.testBit k = true ∧ Adj (masksN R C) k j) ∧ own.testBit j = true ∧ X.testBit j = false := fun j => by
          have hwj : wd.testBit j = true ↔ (w.testBit j = true ∨ ∃ k, w.testBit k = true ∧ Adj (masksN R C) k j) := by
            rw [hwb]
            constructor
            · rintro ⟨k, h1, _, h2⟩
              rcases (nearV_bit hB (hwc k h1)).1 h2 with rfl | h3
              · exact .inl h1
              · exact .inr ⟨k, h1, h3⟩
            · rintro (h1 | ⟨k, h1, h3⟩)
              · exact ⟨j, h1, Nat.zero_testBit _, (nearV_bit hB (hwc j h1)).2 (.inl rfl)⟩
              · exact ⟨k, h1, Nat.zero_testBit _, (nearV_bit hB (hwc k h1)).2 (.inr h3)⟩
          rw [← hwj, hw', minusN_bit, Nat.testBit_and]; cases wd.testBit j <;> cases own.testBit j <;> cases X.testBit j <;> simp
        rw [← hw'] at hml ⊢
        have hor : X ||| w' < 2 ^ 9 := Nat.or_lt_two_pow hX hml
        have hle : X ≤ X ||| w' := Nat.left_le_or
        have hne : w' ≠ 0 → X ≠ X ||| w' := fun hz he => by
          obtain ⟨j, hj⟩ := bit_of_ne hz
          have h1 := ((hb j).1 hj).2.2
          rw [he, Nat.testBit_or, hj, Bool.or_true] at h1; cases h1
        refine next _ _ ?_ ⟨X ||| w', w', rfl, hor, fun j hj => by rw [Nat.testBit_or, hj, Bool.or_true], fun j hj => ?_, fun j hj => by rw [Nat.testBit_or, hSX j hj, Bool.true_or], ?_, ?_, rfl⟩
        · rw [hm, if_neg e]
          by_cases e' : w' = 0
          · rw [if_pos e']; omega
          · rw [if_neg e']; have := hne e'; omega
        · rw [Nat.testBit_or, Bool.or_eq_true] at hj
          rcases hj with hj | hj
          · exact hXo j hj
          · exact ((hb j).1 hj).2.1
        · intro j hj
          rw [Nat.testBit_or, Bool.or_eq_true] at hj
          rcases hj with hj | hj
          · exact hXr j hj
          · obtain ⟨h1 | ⟨k, h1, h2⟩, h3, h4⟩ := (hb j).1 hj
            · rw [hw j h1] at h4; cases h4
            · exact .step (hXr k (hw k h1)) h2 (by rw [Nat.testBit_or, h3, Bool.or_true])
        · intro k j h1 h2 h3 h4
          rw [Nat.testBit_or, h2, Bool.or_false] at h1
          rw [Nat.testBit_or]
          by_cases hk : w.testBit k = true
          · cases hx : X.testBit j with
            | true => rfl
            | false => rw [(hb j).2 ⟨.inr ⟨k, hk, h3⟩, h4, hx⟩]; rfl
          · rw [hc k j h1 (by simpa using hk) h3 h4]; rfl
      · have el := leastIn_W g lf hr e2 hbig ht n (by omega)
        obtain ⟨l1, l2, l3, l4⟩ := low_ok hr e2
        obtain ⟨d1, d2⟩ := f_drop hr e2
        have hlt := without_less hr e2
        have hwl := without_lt9 (k := lowN r) hr
        obtain ⟨k, hk⟩ : ∃ k, k = lowN r := ⟨_, rfl⟩
        rw [← hk] at el l1 l2 d2 hlt hwl
        have hnv := nearV_lt hB l2
        have hwr := hrw k l1
        repeat (first | with_reducible refine wT ?_ | with_reducible refine wptr ?_ | with_reducible refine wbd (by assumption) ?_ | (with_reducible refine wbd (fs0 _) ?_) | (with_reducible refine wia9 l2 ?_) | (with_reducible refine wbd (ld1 (by assumption) (srch_near _ _ _ _ l2)) ?_) | with_reducible refine wor (by omega) (by omega) ?_ | with_reducible refine wneqT (by omega) ?_ | dsimp only)
        refine next2 _ _ (hm2 ▸ hlt) ⟨_, _, rfl, Nat.or_lt_two_pow hwd hnv, hwl, fun j hj => ?_, fun j => ?_, rfl⟩
        · rw [without_bit, Bool.and_eq_true] at hj; exact hrw j hj.1
        · rw [Nat.testBit_or, Bool.or_eq_true, hwb]
          constructor
          · rintro (⟨i, h1, h2, h3⟩ | h1)
            · exact ⟨i, h1, by rw [without_bit, h2]; rfl, h3⟩
            · exact ⟨k, hwr, by rw [without_bit]; simp, h1⟩
          · rintro ⟨i, h1, h2, h3⟩
            by_cases hik : i = k
            · subst hik; exact .inr h3
            · rw [without_bit] at h2
              simp only [ne_eq, hik, not_false_eq_true, decide_true, Bool.and_true] at h2
              exact .inl ⟨i, h1, h2, h3⟩
  obtain ⟨_, _, e, rfl, rfl⟩ := this
  exact e

def whoN (R C a b : Nat) : Nat := if joinsN R C 1 a = true then 1 else if joinsN R C 2 b = true then 2 else 0

theorem joined_W {R C f a b t : Nat} (hB : BoardOf R C) (hp : Pos R C a b) (hbig : Big g) {h : PHeap} {s m : Nat} (hs : At h s (srchC R C m)) (ht : Tab64 g h) (N : Nat) (hN : 5 ≤ N) (hlf : 1000 < lf) :
    ∃ h', CL g lf N fn_impl_search_joined [.ptr s 0, stP f a b t] h = some (.int .i64 (whoN R C a b : Int), h') ∧ Keep h.length h h' := by
  obtain ⟨n, rfl⟩ : ∃ n, N = n + 1 := ⟨N - 1, by omega⟩
  have : W (CL g lf (n + 1) fn_impl_search_joined [.ptr s 0, stP f a b t] h) fun v h' => v = .int .i64 (whoN R C a b : Int) ∧ Keep h.length h h' := by
    rw [impl_search_joined.call_eq]
    unfold impl_search_joined.main
    simp only [env_lf, env_box]
    refine wboxS fun h1 id o1 k1 l1 => ?_
    have hs1 := hs.keep k1
    have e1 := joins_W g lf hB (P := 1) (.inl rfl) hp.1 hbig hs1 (ht.keep k1) n (by omega) hlf
    have e2 := joins_W g lf hB (P := 2) (.inr rfl) hp.2.1 hbig hs1 (ht.keep k1) n (by omega) hlf
    refine loopW (fun m' st => ∃ P : Nat, st = impl_search_joined.st0 (.ptr s 0) (.ptr id 0) (.int .i64 (P : Int)) h1 ∧ P + m' = 3 ∧ 1 ≤ P ∧ (2 ≤ P → joinsN R C 1 a = false) ∧ (3 ≤ P → joinsN R C 2 b = false)) ?_ lf 2 _ (by omega) ⟨1, rfl, rfl, by decide, by omega, by omega⟩
    rintro n1 m1 st ⟨P, rfl, hm, hP1, j1, j2⟩ next
    rw [impl_search_joined.body0_eq]
    unfold impl_search_joined.body0
    simp only [env_C, env_load, env_bin, env_fieldAddr, env_indexAddr]
    have hP : P = 1 ∨ P = 2 ∨ P = 3 := by omega
    rcases hP with rfl | rfl | rfl
    · cases hj : joinsN R C 1 a with
      | true =>
        rw [hj] at e1
        repeat (first | with_reducible refine wT ?_ | with_reducible refine wrI ?_ | with_reducible refine wbd (by assumption) ?_ | (with_reducible refine wbd (fSt0 _) ?_) | (with_reducible refine wia3 (by omega) ?_) | (with_reducible refine wbd (ld1 (by assumption) rfl) ?_) | with_reducible refine wleqT (by omega) ?_ | rw [kLoop_ret] | rw [impl_search_joined.K0_ret] | rw [impl_search_joined.top_sr_4] | dsimp only)
        exact W.ret ⟨by unfold whoN; rw [hj]; rfl, k1⟩
      | false =>
        rw [hj] at e1
        repeat (first | with_reducible refine wT ?_ | with_reducible refine wF ?_ | with_reducible refine wbd (by assumption) ?_ | (with_reducible refine wbd (fSt0 _) ?_) | (with_reducible refine wia3 (by omega) ?_) | (with_reducible refine wbd (ld1 (by assumption) rfl) ?_) | with_reducible refine wadd1 (by omega) ?_ | with_reducible refine wleqT (by omega) ?_ | dsimp only)
        exact next _ _ (show 1 < m1 by omega) ⟨2, rfl, rfl, by decide, fun _ => hj, by omega⟩
    · cases hj : joinsN R C 2 b with
      | true =>
        rw [hj] at e2
        repeat (first | with_reducible refine wT ?_ | with_reducible refine wrI ?_ | with_reducible refine wbd (by assumption) ?_ | (with_reducible refine wbd (fSt0 _) ?_) | (with_reducible refine wia3 (by omega) ?_) | (with_reducible refine wbd (ld1 (by assumption) rfl) ?_) | with_reducible refine wleqT (by omega) ?_ | rw [kLoop_ret] | rw [impl_search_joined.K0_ret] | rw [impl_search_joined.top_sr_4] | dsimp only)
        exact W.ret ⟨by unfold whoN; rw [j1 (by decide), hj]; rfl, k1⟩
      | false =>
        rw [hj] at e2
        repeat (first | with_reducible refine wT ?_ | with_reducible refine wF ?_ | with_reducible refine wbd (by assumption) ?_ | (with_reducible refine wbd (fSt0 _) ?_) | (with_reducible refine wia3 (by omega) ?_) | (with_reducible refine wbd (ld1 (by assumption) rfl) ?_) | with_reducible refine wadd1 (by omega) ?_ | with_reducible refine wleqT (by omega) ?_ | dsimp only)
        exact next _ _ (show 0 < m1 by omega) ⟨3, rfl, rfl, by decide, fun _ => j1 (by decide), fun _ => hj⟩
    · repeat (first | with_reducible refine wF ?_ | with_reducible refine wrI ?_ | with_reducible refine wleqF (by omega) ?_ | rw [kLoop_exit] | rw [impl_search_joined.after0_se0_0_3_5_7])
      exact W.ret ⟨by unfold whoN; rw [j1 (by decide), j2 (by decide)]; rfl, k1⟩
  obtain ⟨_, h', e, rfl, k⟩ := this
  exact ⟨h', e, k⟩

end Go.Proofs.YtpaehbfknlpkbacDoor

/- The program's search with its map: who wins what stands, and by which moves. -/
set_option maxRecDepth 20000
namespace Go.Proofs.YtpaehbfknlpkbacDoor
open Go Go.Ip G

/-- What may stand: free cells, stones of both, who is to move. -/
def Stands (R C f a b t : Nat) : Prop := Pos R C a b ∧ f < 2 ^ 9 ∧ (∀ k, f.testBit k = true ↔ k < R * C ∧ (a ||| b).testBit k = false) ∧ (t = 1 ∨ t = 2)
theorem Stands.put {R C f a b t k : Nat} (h : Stands R C f a b t) (hk : f.testBit k = true) : Stands R C (without f k) (putA t k a) (putB t k b) (3 - t) := by
  obtain ⟨h1, h2, h3, h4⟩ := h
  obtain ⟨k1, k2⟩ := (h3 k).1 hk
  refine ⟨h1.put k1 k2, without_lt9 h2, fun j => ?_, by omega⟩
  rw [without_bit, put_bit, Bool.and_eq_true, h3, Bool.or_eq_false_iff]
  simp only [decide_eq_true_eq, decide_eq_false_iff_not]
  exact ⟨fun ⟨⟨a1, a2⟩, a3⟩ => ⟨a1, a2, a3⟩, fun ⟨a1, a2, a3⟩ => ⟨⟨a1, a2⟩, a3⟩⟩

/-- Every entry of the map tells who wins. -/
def Memo (R C : Nat) (es : List (PV × PV)) : Prop := ∀ p ∈ es, ∃ f a b t, Stands R C f a b t ∧ p = (stP f a b t, .int .i64 (winN R C a b t : Int))

theorem eqK_st {f a b t f' a' b' t' : Nat} (h : eqK (stP f a b t) (stP f' a' b' t') = true) : f = f' ∧ a = a' ∧ b = b' ∧ t = t' := by
  simp only [eqK, stP, stC, eqL, eq1, Bool.and_eq_true, decide_eq_true_eq] at h
  omega
theorem memo_find {R C f a b t : Nat} : ∀ {es : List (PV × PV)} {v : PV}, Memo R C es → findM es (stP f a b t) = some v → v = .int .i64 (winN R C a b t : Int)
  | [], v, _, h => by cases h
  | p :: es, v, hm, h => by
    obtain ⟨f', a', b', t', _, rfl⟩ := hm p (by simp)
    unfold findM at h
    cases e : eqK (stP f' a' b' t') (stP f a b t) with
    | true =>
      rw [e] at h
      obtain ⟨_, rfl, rfl, rfl⟩ := eqK_st e
      cases h; rfl
    | false =>
      rw [e] at h
      exact memo_find (fun q hq => hm q (by simp [hq])) h
theorem memo_put {R C f a b t : Nat} (hs : Stands R C f a b t) : ∀ {es : List (PV × PV)}, Memo R C es → Memo R C (putM es (stP f a b t) (.int .i64 (winN R C a b t : Int)))
  | [], _ => fun p hp => by
    simp only [putM, List.mem_singleton] at hp
    exact ⟨f, a, b, t, hs, hp⟩
  | p :: es, hm => by
    obtain ⟨f', a', b', t', hs', rfl⟩ := hm p (by simp)
    have hr : Memo R C es := fun q hq => hm q (by simp [hq])
    unfold putM
    cases e : eqK (stP f' a' b' t') (stP f a b t) with
    | true =>
      obtain ⟨rfl, rfl, rfl, rfl⟩ := eqK_st e
      intro q hq
      rcases List.mem_cons.1 hq with rfl | hq
      · exact ⟨f', a', b', t', hs, rfl⟩
      · exact hr q hq
    | false =>
      intro q hq
      rcases List.mem_cons.1 hq with rfl | hq
      · exact ⟨f', a', b', t', hs', rfl⟩
      · exact memo_put hs hr q hq

/-! ### the keys -/
theorem keyedSt : keyedB Tryd.prog 47 = true := by kernel_rfl
theorem zeroInt : zero1 Tryd.prog 3 = some (.int .i64 0) := by kernel_rfl
theorem stU : Tryd.prog.underlying 47 = some (.struct (Tryd.prog.fieldsOf 47)) := by kernel_rfl
theorem stF : (Tryd.prog.fieldsOf 47).toList.map (fun f => (f.type, f.offset)) = [(45, 0), (3, 3)] := by kernel_rfl
theorem stN : (Tryd.prog.fieldsOf 47).all (·.name != "_") = true := by kernel_rfl
theorem stK : Tryd.prog.keyType 47 = true := by kernel_rfl
theorem tyIntU : Tryd.prog.underlying 3 = some (.int .i64) := by kernel_rfl
theorem ce1 : Tryd.prog.cellsOf 3 = 1 := by kernel_rfl
theorem ce3 : Tryd.prog.cellsOf 45 = 3 := by kernel_rfl
theorem ce4 : Tryd.prog.cellsOf 47 = 4 := by kernel_rfl
theorem tySz : Nat.ble 2 Tryd.prog.types.size = true := by kernel_rfl
theorem wf_small {x : Nat} (hx : x < 2 ^ 9) : (Lit.int .i64 (x : Int)).wf = true := by
  have h1 : IntKind.i64.min = -9223372036854775808 := by decide
  have h2 : IntKind.i64.max = 9223372036854775807 := by decide
  simp only [Lit.wf, h1, h2, Bool.and_eq_true, decide_eq_true_eq]
  omega
theorem lits_int {D x : Nat} (hx : x < 2 ^ 9) : Tryd.prog.keyLits (D + 1) 3 [.int .i64 (x : Int)] = some [.int .i64 (x : Int)] := by
  simp [Program.keyLits, tyIntU, wf_small hx]
theorem lits_arr {D x y z : Nat} (hx : x < 2 ^ 9) (hy : y < 2 ^ 9) (hz : z < 2 ^ 9) : Tryd.prog.keyLits (D + 2) 45 [.int .i64 (x : Int), .int .i64 (y : Int), .int .i64 (z : Int)] = some [.int .i64 (x : Int), .int .i64 (y : Int), .int .i64 (z : Int)] := by
  unfold Program.keyLits
  rw [tyA3]
  simp only [ce1, ce3, List.length_cons, List.length_nil, if_true]
  rw [show List.range 3 = [0, 1, 2] from rfl]
  simp [lits_int hx, lits_int hy, lits_int hz]
theorem lits_st {D f a b t : Nat} (hf : f < 2 ^ 9) (ha : a < 2 ^ 9) (hb : b < 2 ^ 9) (ht : t < 2 ^ 9) : ∃ L, Tryd.prog.keyLits (D + 3) 47 [.int .i64 (f : Int), .int .i64 (a : Int), .int .i64 (b : Int), .int .i64 (t : Int)] = some L := by
  unfold Program.keyLits
  rw [stU]
  simp only [ce4, List.length_cons, List.length_nil, stN, and_self, if_true]
  have hF := stF
  generalize Tryd.prog.fieldsOf 47 = fs at hF ⊢
  obtain ⟨L⟩ := fs
  match L, hF with
  | [f0, f1], hF =>
    simp only [List.map_cons, List.map_nil, List.cons.injEq, Prod.mk.injEq, and_true] at hF
    obtain ⟨⟨t0, o0⟩, t1, o1⟩ := hF
    refine ⟨[.int .i64 (f : Int), .int .i64 (a : Int), .int .i64 (b : Int), .int .i64 (t : Int)], ?_⟩
    simp [t0, o0, t1, o1, ce1, ce3, lits_arr hf ha hb, lits_int ht]
  | [], hF => simp at hF
  | [_], hF => simp at hF
  | _ :: _ :: _ :: _, hF => simp at hF
theorem isKey_st {R C f a b t : Nat} (hB : BoardOf R C) (hs : Stands R C f a b t) : isKeyP Tryd.prog 47 (stP f a b t) = true := by
  obtain ⟨hp, hf, _, ht⟩ := hs
  have l9 := hp.lt9 hB
  obtain ⟨D, hD⟩ : ∃ D, Tryd.prog.types.size + 1 = D + 3 := ⟨Tryd.prog.types.size - 2, by have := Nat.le_of_ble_eq_true tySz; omega⟩
  obtain ⟨L, hL⟩ := lits_st (D := D) hf l9.1 l9.2 (show t < 2 ^ 9 by omega)
  have hk : keyV (stP f a b t) = some (.agg #[.int .i64 (f : Int), .int .i64 (a : Int), .int .i64 (b : Int), .int .i64 (t : Int)]) := rfl
  have hfo : (Value.agg #[.int .i64 (f : Int), .int .i64 (a : Int), .int .i64 (b : Int), .int .i64 (t : Int)]).formed Tryd.prog 47 = true := by
    simp [Value.formed, stU, ce4]
  unfold isKeyP
  rw [hk]
  simp only [keyOf, stU, stK, hfo, Bool.and_self, if_true, hD, Value.cells, hL, Option.map_some, Option.isSome_some]
theorem keys_memo {R C : Nat} {es : List (PV × PV)} (hB : BoardOf R C) (hm : Memo R C es) {f a b t : Nat} (hs : Stands R C f a b t) : keysB Tryd.prog 47 es (stP f a b t) = true := by
  unfold keysB
  rw [keyedSt, isKey_st hB hs, Bool.and_self, Bool.true_and, List.all_eq_true]
  intro p hp
  obtain ⟨f', a', b', t', hs', rfl⟩ := hm p hp
  exact isKey_st hB hs'

theorem look_st {R C m : Nat} {es : List (PV × PV)} {h : PHeap} (hB : BoardOf R C) (hM : MapAt h m es) (hm : Memo R C es) {f a b t : Nat} (hs : Stands R C f a b t) :
    lookupP Tryd.prog 62 (.mapv m) (stP f a b t) true h = some (foundP true (.int .i64 0) (findM es (stP f a b t))) := by
  have hk := keys_memo hB hm hs
  have hma : mapAt h m = some es := by unfold mapAt; rw [show h[m]? = some (.mp es) from hM]
  simp only [lookupP, tyMp, hma, zeroInt, hk, cond_true]
theorem upd_st {R C m : Nat} {es : List (PV × PV)} {h : PHeap} (hB : BoardOf R C) (hM : MapAt h m es) (hm : Memo R C es) {f a b t : Nat} (hs : Stands R C f a b t) (x : Int) :
    updateP Tryd.prog 62 (.mapv m) (stP f a b t) (.int .i64 x) h = some (h.set m (.mp (putM es (stP f a b t) (.int .i64 x)))) := by
  have hk := keys_memo hB hm hs
  have hma : mapAt h m = some es := by unfold mapAt; rw [show h[m]? = some (.mp es) from hM]
  simp only [updateP, tyMp, hma, hk, PV.oneCell, Bool.and_self, cond_true]

/-- The search of a board: its tables, and its map, right in every entry. -/
def Sch (R C : Nat) (h : PHeap) (s m : Nat) : Prop := At h s (srchC R C m) ∧ ∃ es, MapAt h m es ∧ Memo R C es
theorem Sch.keep {R C s m : Nat} {h h' : PHeap} (hs : Sch R C h s m) (k : Keep h.length h h') : Sch R C h' s m := by
  obtain ⟨a, es, b, c⟩ := hs; exact ⟨a.keep k, es, b.keep k, c⟩
theorem Sch.ne {R C s m id : Nat} {h : PHeap} {l : List PV} (hs : Sch R C h s m) (a : At h id l) : id ≠ m := by
  obtain ⟨_, es, b, _⟩ := hs; exact a.ne b
theorem Sch.lt {R C s m : Nat} {h : PHeap} (hs : Sch R C h s m) : m < h.length := by
  obtain ⟨_, es, b, _⟩ := hs; exact b.lt
theorem Tab64.kb {g : Nat → PV} {R C s m : Nat} {h h' : PHeap} (t : Tab64 g h) (hs : Sch R C h s m) (k : KB m h h') : Tab64 g h' := fun id e => by
  have ho := t id e
  obtain ⟨_, es, b, _⟩ := hs
  rw [k.2 id (List.getElem?_eq_some_iff.1 ho).1 (fun e => by subst e; unfold MapAt at b; rw [ho] at b; cases b)]; exact ho
theorem Tab.kb {g : Nat → PV} {R C s m : Nat} {h h' : PHeap} (t : Tab g h) (hs : Sch R C h s m) (k : KB m h h') : Tab g h' := by
  obtain ⟨id, e, ho⟩ := t
  obtain ⟨_, es, b, _⟩ := hs
  exact ⟨id, e, by rw [k.2 id (List.getElem?_eq_some_iff.1 ho).1 (fun e => by subst e; unfold MapAt at b; rw [ho] at b; cases b)]; exact ho⟩

theorem who_win {R C a b t : Nat} (hB : BoardOf R C) (hp : Pos R C a b) : (whoN R C a b ≠ 0 → winN R C a b t = whoN R C a b) ∧ (whoN R C a b = 0 → joinsN R C 1 a = false ∧ joinsN R C 2 b = false) ∧ whoN R C a b ≤ 2 := by
  unfold whoN
  cases h1 : joinsN R C 1 a with
  | true => exact ⟨fun _ => win_first h1, fun h => by simp at h, by simp⟩
  | false =>
    cases h2 : joinsN R C 2 b with
    | true => exact ⟨fun _ => by rw [win_second hB hp h2]; rfl, fun h => by simp at h, by simp⟩
    | false => exact ⟨fun h => by simp at h, fun _ => ⟨rfl, rfl⟩, by simp⟩

theorem fr_put' {R C f a b t k : Nat} (hs : Stands R C f a b t) (hk : f.testBit k = true) : frN (R * C) (putA t k a) (putB t k b) + 1 ≤ frN (R * C) a b := by
  obtain ⟨k1, k2⟩ := (hs.2.2.1 k).1 hk; exact fr_put k1 k2

variable (g : Nat → PV) (lf n : Nat)

def WinOk (R C s m : Nat) (b : Nat) : Prop := ∀ (f a b' t N : Nat) (h : PHeap), frN (R * C) a b' ≤ b → Stands R C f a b' t → 2 * b + 8 ≤ N → Sch R C h s m → Tab64 g h →
  W (CL g lf N fn_impl_search_winner [.ptr s 0, stP f a b' t] h) fun v h' => v = .int .i64 (winN R C a b' t : Int) ∧ Sch R C h' s m ∧ KB m h h'

theorem solved_W {R C s m B : Nat} (hB : BoardOf R C) (hbig : Big g) (hlf : 1000 < lf) (ih : ∀ b, b < B → WinOk g lf R C s m b) {f a b t : Nat} (hfr : frN (R * C) a b ≤ B) (hst : Stands R C f a b t) (N : Nat) (hN : 2 * B + 7 ≤ N) {h : PHeap} (hs : Sch R C h s m) (ht : Tab64 g h) :
    W (CL g lf N fn_impl_search_solved [.ptr s 0, stP f a b t] h) fun v h' => v = .int .i64 (winN R C a b t : Int) ∧ Sch R C h' s m ∧ KB m h h' := by
  obtain ⟨n, rfl⟩ : ∃ n, N = n + 1 := ⟨N - 1, by omega⟩
  obtain ⟨hp, hf9, hfree, hT⟩ := id hst
  have h9 := hB.2.2.2.2
  have l9 := hp.lt9 hB
  obtain ⟨w1, w2, w3⟩ := who_win (t := t) hB hp
  rw [impl_search_solved.call_eq]
  unfold impl_search_solved.main
  simp only [env_C, env_lf, env_box, env_load, env_bin, env_fieldAddr, env_indexAddr]
  refine wboxS fun h1 id o1 k1 l1 => ?_
  have hs1 := hs.keep k1
  have ht1 := ht.keep k1
  obtain ⟨h2, e1, k2⟩ := joined_W g lf (f := f) (t := t) hB hp hbig hs1.1 ht1 n (by omega) hlf
  have hs2 := hs1.keep k2
  have ht2 := ht1.keep k2
  have o2 := o1.keep k2
  repeat (first | with_reducible refine wbd (by assumption) ?_ | (with_reducible refine wbd (ldS (by assumption)) ?_) | dsimp only)
  refine wneq (fun e => ?_) (fun e => ?_)
  · repeat (first | with_reducible refine wT ?_ | with_reducible refine wrI ?_)
    exact W.ret ⟨by rw [w1 (by omega)], hs2, k1.kb.trans k2.kb⟩
  · obtain ⟨j1, j2⟩ := w2 (by omega)
    have hwo := win_open (t := t) j1 j2
    have e3 : ∀ h, CL g lf n fn_impl_exchanged [.int .i64 (t : Int)] h = some (.int .i64 ((3 - t : Nat) : Int), h) := fun h => exchanged_W g lf n (by omega) h hT
    repeat (first | with_reducible refine wF ?_ | (with_reducible refine wbd (fSt0 _) ?_) | (with_reducible refine wia30 ?_) | (with_reducible refine wbd (ld1 (by assumption) rfl) ?_))
    refine loopW (fun m' st => ∃ (r : Nat) (h3 : PHeap), st = impl_search_solved.st0 (.ptr s 0) (.ptr id 0) (.int .i64 (r : Int)) h3 ∧ r < 2 ^ 9 ∧ (∀ k, r.testBit k = true → f.testBit k = true) ∧ (∀ k, f.testBit k = true → r.testBit k = false → winN R C (putA t k a) (putB t k b) (3 - t) ≠ t) ∧
      At h3 id (stC f a b t) ∧ Sch R C h3 s m ∧ Tab64 g h3 ∧ KB m h2 h3 ∧ m' = r) ?_ lf f _ (by omega) ⟨f, h2, rfl, hf9, fun _ h => h, fun k h1 h2 => (by rw [h1] at h2; cases h2), o2, hs2, ht2, KB.refl _ _, rfl⟩
    rintro n1 m1 st ⟨r, h3, rfl, hr, hrf, hno, o3, hs3, ht3, k3, hm⟩ next
    rw [impl_search_solved.body0_eq]
    unfold impl_search_solved.body0
    simp only [env_C, env_load, env_bin, env_fieldAddr]
    by_cases e4 : r = 0
    · subst e4
      have e3' := e3 h3
      repeat (first | with_reducible refine wF ?_ | with_reducible refine wrI ?_ | with_reducible refine wbd (by assumption) ?_ | (with_reducible refine wbd (fSt1 _) ?_) | (with_reducible refine wbd (ld1 (by assumption) rfl) ?_) | with_reducible refine wneqF (by omega) ?_ | rw [kLoop_exit] | rw [impl_search_solved.after0_se0_0_3_6_17] | dsimp only | simp only [env_C, env_Y, env_g, env_lf, env_pick, env_alloc, env_box, env_build, env_buildSlice, env_load, env_store, env_ptr, env_bin, env_un, env_conv, env_make, env_slice, env_fieldAddr, env_field, env_indexAddr, env_index, env_extract, env_len, env_append, env_max, env_min, env_makeMap, env_lookup, env_update, env_clos, env_bstr, env_ext])
      refine W.ret ⟨?_, hs3, (k1.kb.trans k2.kb).trans k3⟩
      have hmv : moveB R C a b t = false := by
        cases hh : moveB R C a b t with
        | false => rfl
        | true =>
          obtain ⟨k, c1, c2, c3⟩ := moveB_iff.1 hh
          exact absurd c3 (hno k ((hfree k).2 ⟨c1, c2⟩) (Nat.zero_testBit _))
      rw [hwo, hmv]; rfl
    · have el := leastIn_W g lf hr e4 hbig ht3 n (by omega)
      obtain ⟨c1, c2, c3, c4⟩ := low_ok hr e4
      obtain ⟨d1, d2⟩ := f_drop hr e4
      have hlt := without_less hr e4
      have hwl := without_lt9 (k := lowN r) hr
      obtain ⟨k, hk⟩ : ∃ k, k = lowN r := ⟨_, rfl⟩
      rw [← hk] at el c1 c2 d2 hlt hwl
      have hkf := hrf k c1
      have hfr' := fr_put' hst hkf
      have hst' := hst.put hkf
      repeat (first | with_reducible refine wT ?_ | with_reducible refine wck plain_int ?_ | with_reducible refine wbd (by assumption) ?_ | (with_reducible refine wbd (fSt1 _) ?_) | (with_reducible refine wbd (ld1 (by assumption) rfl) ?_) | (with_reducible refine wbd (ldS (by assumption)) ?_) | (with_reducible refine wck plainS ?_) | with_reducible refine wneqT (by omega) ?_ | dsimp only)
      refine wcall (after_W g lf hf9 l9.1 l9.2 c2 hT n (by omega) h3) fun v h4 ⟨hv, k4⟩ => ?_
      subst hv
      have o4 := o3.keep k4
      have hs4 := hs3.keep k4
      have ht4 := ht3.keep k4
      repeat (first | with_reducible refine wck plain_int ?_ | (with_reducible refine wbd (ld1 (by assumption) rfl) ?_) | (with_reducible refine wbd (ldS (by assumption)) ?_) | (with_reducible refine wck plainS ?_) | dsimp only)
      refine wcall (ih (B - 1) (by omega) _ _ _ _ n h4 (by omega) hst' (by omega) hs4 ht4) fun v h5 ⟨hv, hs5, k5⟩ => ?_
      subst hv
      have o5 := o4.kb k5 (hs4.ne o4)
      have ht5 := ht4.kb hs4 k5
      repeat (first | with_reducible refine wck plain_int ?_ | (with_reducible refine wbd (ld1 (by assumption) rfl) ?_) | (with_reducible refine wbd (ldS (by assumption)) ?_) | (with_reducible refine wck plainS ?_) | dsimp only)
      refine weql (fun e5 => ?_) (fun e5 => ?_)
      · repeat (first | with_reducible refine wT ?_ | with_reducible refine wrI ?_ | (with_reducible refine wbd (fSt1 _) ?_) | (with_reducible refine wbd (ld1 (by assumption) rfl) ?_) | rw [kLoop_ret] | rw [impl_search_solved.K0_ret] | rw [impl_search_solved.top_sr_4])
        refine W.ret ⟨?_, hs5, ((k1.kb.trans k2.kb).trans k3).trans (k4.kb.trans k5)⟩
        obtain ⟨q1, q2⟩ := (hfree k).1 hkf
        have hmv : moveB R C a b t = true := moveB_iff.2 ⟨k, q1, q2, by omega⟩
        rw [hwo, hmv]; rfl
      · repeat (first | with_reducible refine wF ?_ | with_reducible refine wbd (by assumption) ?_)
        refine next _ _ (hm ▸ hlt) ⟨_, h5, rfl, hwl, fun j hj => ?_, fun j hj1 hj2 => ?_, o5, hs5, ht5, k3.trans (k4.kb.trans k5), rfl⟩
        · rw [without_bit, Bool.and_eq_true] at hj; exact hrf j hj.1
        · by_cases hjk : j = k
          · subst hjk; omega
          · rw [without_bit] at hj2
            simp only [ne_eq, hjk, not_false_eq_true, decide_true, Bool.and_true] at hj2
            exact hno j hj1 hj2

theorem sWinner_W {R C s m : Nat} (hB : BoardOf R C) (hbig : Big g) (hlf : 1000 < lf) (B : Nat) : WinOk g lf R C s m B := by
  induction B using Nat.strongRecOn with
  | _ B ih =>
  intro f a b t N h hfr hst hN hs ht
  obtain ⟨n, rfl⟩ : ∃ n, N = n + 1 := ⟨N - 1, by omega⟩
  rw [impl_search_winner.call_eq]
  unfold impl_search_winner.main
  simp only [env_C, env_box, env_load, env_ptr, env_un, env_fieldAddr, env_extract, env_lookup, env_update]
  refine wboxS fun h1 id o1 k1 l1 => ?_
  have hs1 := hs.keep k1
  have ht1 := ht.keep k1
  obtain ⟨sa, es, ma, mm⟩ := _root_.id hs1
  have hlook := look_st hB ma mm hst
  repeat (first | with_reducible refine wptr ?_ | with_reducible refine wbd (by assumption) ?_ | (with_reducible refine wbd (fs3 _) ?_) | (with_reducible refine wbd (ldS (by assumption)) ?_) | (with_reducible refine wbd (ldM (by assumption) (srch_map _ _ _)) ?_) | dsimp only)
  cases hfd : findM es (stP f a b t) with
  | some v =>
    have hv := memo_find mm hfd
    subst hv
    refine wx0 ?_
    refine wx1 ?_
    repeat (first | with_reducible refine wF ?_ | with_reducible refine wnT ?_ | with_reducible refine wrI ?_)
    exact W.ret ⟨rfl, hs1, k1.kb⟩
  | none =>
    refine wx0 ?_
    refine wx1 ?_
    repeat (first | with_reducible refine wT ?_ | with_reducible refine wnF ?_ | (with_reducible refine wbd (ldS (by assumption)) ?_))
    refine wcall (solved_W g lf hB hbig hlf ih hfr hst n (by omega) hs1 ht1) fun v h2 ⟨hv, hs2, k2⟩ => ?_
    subst hv
    have o2 := o1.kb k2 (hs1.ne o1)
    obtain ⟨sa2, es2, ma2, mm2⟩ := _root_.id hs2
    repeat (first | with_reducible refine wptr ?_ | (with_reducible refine wbd (fs3 _) ?_) | (with_reducible refine wbd (ldS (by assumption)) ?_) | (with_reducible refine wbd (ldM (by assumption) (srch_map _ _ _)) ?_) | dsimp only)
    refine wbd (upd_st hB ma2 mm2 hst _) ?_
    have ma3 : MapAt (h2.set m (.mp (putM es2 (stP f a b t) (.int .i64 (winN R C a b t : Int))))) m (putM es2 (stP f a b t) (.int .i64 (winN R C a b t : Int))) := by
      unfold MapAt; rw [List.getElem?_set_self ma2.lt]
    have k3 : KB m h2 (h2.set m (.mp (putM es2 (stP f a b t) (.int .i64 (winN R C a b t : Int))))) := ⟨by simp, fun i _ hn => List.getElem?_set_ne (by omega)⟩
    generalize h2.set m (.mp (putM es2 (stP f a b t) (.int .i64 (winN R C a b t : Int)))) = h3 at ma3 k3 ⊢
    have sa3 := sa2.kb k3 (sa2.ne ma2)
    repeat (first | with_reducible refine wrI ?_)
    exact W.ret ⟨rfl, ⟨sa3, _, ma3, memo_put hst mm2⟩, (k1.kb.trans k2).trans k3⟩

end Go.Proofs.YtpaehbfknlpkbacDoor

/- The program's search: made for a board, begun at a position; the moves by which one wins. -/
set_option maxRecDepth 20000
namespace Go.Proofs.YtpaehbfknlpkbacDoor
open Go Go.Ip G

variable (g : Nat → PV) (lf n : Nat)

/-! ### a search is made -/
def slotV (R C i p j : Nat) : Nat :=
  if j < 9 then (if j < i then nearV R C j else 0) else if j = 10 ∧ 2 ≤ p then sideN R C 1 false else if j = 11 ∧ 3 ≤ p then sideN R C 2 false else if j = 13 ∧ 2 ≤ p then sideN R C 1 true else if j = 14 ∧ 3 ≤ p then sideN R C 2 true else 0
def fillC (R C m i p : Nat) : List PV := ((List.range 15).map (slotV R C i p)).map (fun x : Nat => .int .i64 (x : Int)) ++ [.mapv m]
theorem fillC_length (R C m i p : Nat) : (fillC R C m i p).length = 16 := by simp [fillC]
theorem fill_done (R C m : Nat) : fillC R C m (R * C) 3 = srchC R C m := by
  have hn : ∀ j ∈ List.range 9, slotV R C (R * C) 3 j = nearV R C j := fun j hj => by
    have hj := List.mem_range.1 hj
    unfold slotV nearV
    rw [if_pos hj]
    by_cases h : j < R * C <;> simp [h]
  unfold fillC srchC srchV
  rw [show List.range 15 = List.range 9 ++ [9, 10, 11, 12, 13, 14] from rfl, List.map_append, List.map_congr_left hn]
  rfl
theorem fill_near {R C m i p : Nat} (hi : i < 9) : (fillC R C m i p).set (0 + i) (.int .i64 (nearV R C i : Int)) = fillC R C m (i + 1) p := by
  unfold fillC
  rw [Nat.zero_add, List.set_append_left _ _ (by simp; omega), ← List.map_set]
  congr 2
  apply List.ext_getElem (by simp)
  intro j h1 h2
  simp only [List.getElem_set, List.getElem_map, List.getElem_range]
  unfold slotV
  by_cases e : i = j
  · subst e; rw [if_pos rfl, if_pos hi, if_pos (by omega)]
  · rw [if_neg e]
    by_cases h9 : j < 9
    · rw [if_pos h9, if_pos h9]
      by_cases h : j < i
      · rw [if_pos h, if_pos (by omega)]
      · rw [if_neg h, if_neg (by omega)]
    · rw [if_neg h9, if_neg h9]
theorem fill_one (R C m i : Nat) : ((fillC R C m i 1).set (9 + 1) (.int .i64 (sideN R C 1 false : Int))).set (12 + 1) (.int .i64 (sideN R C 1 true : Int)) = fillC R C m i 2 := by rfl
theorem fill_two (R C m i : Nat) : ((fillC R C m i 2).set (9 + 2) (.int .i64 (sideN R C 2 false : Int))).set (12 + 2) (.int .i64 (sideN R C 2 true : Int)) = fillC R C m i 3 := by rfl
theorem bldS (m : Nat) : buildP Tryd.prog 65 [(3, .mapv m)] = some (.agg (fillC 1 1 m 0 1)) := by kernel_rfl
theorem fill_zero (R C m : Nat) : fillC 1 1 m 0 1 = fillC R C m 0 1 := by
  unfold fillC
  congr 2

theorem wmkM {Q : PV → PHeap → Prop} {h : PHeap} {F : PV × PHeap → Res} (hf : ∀ h' m, MapAt h' m [] → Keep h.length h h' → h.length ≤ m → W (F (.mapv m, h')) Q) : W ((makeMapP none h).bind F) Q :=
  hf _ _ (by unfold MapAt; simp) (Keep.append _ _ _ (Nat.le_refl _)) (Nat.le_refl _)

theorem newSearch_W {R C : Nat} (hB : BoardOf R C) (N : Nat) (hN : 7 ≤ N) (hlf : 1000 < lf) {h : PHeap} (ht : Tab g h) :
    W (CL g lf N fn_impl_newSearch [.int .i64 (R : Int), .int .i64 (C : Int)] h) fun v h' => ∃ s m, v = .ptr s 0 ∧ Sch R C h' s m ∧ Keep h.length h h' ∧ h.length ≤ s ∧ h.length ≤ m := by
  obtain ⟨n, rfl⟩ : ∃ n, N = n + 1 := ⟨N - 1, by omega⟩
  obtain ⟨b1, b2, b3, b4, h9⟩ := id hB
  rw [impl_newSearch.call_eq]
  unfold impl_newSearch.main
  simp only [env_lf, env_box, env_build, env_bin, env_makeMap]
  refine wmkM fun h1 m ma k1 lm => ?_
  refine wbd (bldS m) ?_
  refine wnew (l := fillC 1 1 m 0 1) (by rfl) fun h2 s o2 k2 ls => ?_
  dsimp only at k2 ls ⊢
  rw [fill_zero R C] at o2
  have ma2 := ma.keep k2
  have kk := k1.trans (k2.mono k1.1)
  have lss : h.length ≤ s := Nat.le_trans k1.1 ls
  have hRC : R * C < 4611686018427387904 := by omega
  repeat (first | with_reducible refine wmulN (by omega) ?_)
  refine loopW (fun m' st => ∃ (i : Nat) (h3 : PHeap), st = impl_newSearch.st0 (.int .i64 (R : Int)) (.int .i64 (C : Int)) (.ptr s 0) (.int .i64 ((R * C : Nat) : Int)) (.int .i64 (i : Int)) h3 ∧ i + m' = R * C ∧ At h3 s (fillC R C m i 1) ∧ MapAt h3 m [] ∧ Keep h.length h h3) ?_ lf (R * C) _ (by omega) ⟨0, h2, rfl, by omega, o2, ma2, kk⟩
  rintro n1 m1 st ⟨i, h3, rfl, him, o3, ma3, k3⟩ next
  rw [impl_newSearch.body0_eq]
  unfold impl_newSearch.body0
  simp only [env_C, env_store, env_ptr, env_bin, env_fieldAddr, env_indexAddr]
  cases m1 with
  | succ m1 =>
    have hi : i < 9 := by omega
    have hsl := shl_lt hi
    have hnv : wideN R C (1 <<< i) = nearV R C i := by unfold nearV; rw [if_pos (by omega)]
    obtain ⟨h4, e4, k4⟩ := withNear_calls g lf b1 b2 b3 b4 h9 hsl n (by omega) (by omega) (ht.keep k3)
    have o4 := o3.keep k4
    rw [hnv] at e4
    repeat (first | with_reducible refine wT ?_ | with_reducible refine wptr ?_ | with_reducible refine wbd (by assumption) ?_ | (with_reducible refine wbd (fs0 _) ?_) | (with_reducible refine wia9 hi ?_) | with_reducible refine wshl (by omega) ?_ | with_reducible refine wlssT (by omega) ?_ | dsimp only)
    refine wst1 o4 (by rw [fillC_length]; omega) fun h5 o5 k5 => ?_
    rw [fill_near hi] at o5
    have ma5 := (ma3.keep k4).kb k5 (o4.ne (ma3.keep k4)).symm
    repeat (first | with_reducible refine wadd1 (by omega) ?_)
    exact next _ _ (Nat.lt_succ_self m1) ⟨i + 1, h5, rfl, by omega, o5, ma5, (k3.trans (k4.mono k3.1)).kbs (Nat.le_refl _) k5 lss⟩
  | zero =>
    have hiR : i = R * C := by omega
    subst hiR
    repeat (first | with_reducible refine wF ?_ | with_reducible refine wlssF (by omega) ?_ | rw [kLoop_exit] | rw [impl_newSearch.after0_se0_0_1_5_13_14_15] | simp only [env_C, env_Y, env_g, env_lf, env_pick, env_alloc, env_box, env_build, env_buildSlice, env_load, env_store, env_ptr, env_bin, env_un, env_conv, env_make, env_slice, env_fieldAddr, env_field, env_indexAddr, env_index, env_extract, env_len, env_append, env_max, env_min, env_makeMap, env_lookup, env_update, env_clos, env_bstr, env_ext])
    refine loopW (fun m' st => ∃ (P : Nat) (h4 : PHeap), st = impl_newSearch.st1 (.int .i64 (R : Int)) (.int .i64 (C : Int)) (.ptr s 0) (.int .i64 (P : Int)) h4 ∧ P + m' = 3 ∧ 1 ≤ P ∧ At h4 s (fillC R C m (R * C) P) ∧ MapAt h4 m [] ∧ Keep h.length h h4) ?_ lf 2 _ (by omega) ⟨1, h3, rfl, rfl, by decide, o3, ma3, k3⟩
    rintro n2 m2 st ⟨P, h4, rfl, hPm, hP1, o4, ma4, k4⟩ next2
    have hP : P = 1 ∨ P = 2 ∨ P = 3 := by omega
    have e1 := fun h => sidesOf_W g lf hB (P := 1) (.inl rfl) n (by omega) hlf h
    have e2 := fun h => sidesOf_W g lf hB (P := 2) (.inr rfl) n (by omega) hlf h
    rw [impl_newSearch.body1_eq]
    unfold impl_newSearch.body1
    simp only [env_C, env_store, env_ptr, env_bin, env_fieldAddr, env_indexAddr, env_extract]
    rcases hP with rfl | rfl | rfl
    · have e1' := e1 h4
      repeat (first | with_reducible refine wT ?_ | with_reducible refine wx0 ?_ | with_reducible refine wx1 ?_ | with_reducible refine wptr ?_ | with_reducible refine wbd (by assumption) ?_ | (with_reducible refine wbd (fs1 _) ?_) | (with_reducible refine wbd (fs2 _) ?_) | (with_reducible refine wia3 (by omega) ?_) | with_reducible refine wleqT (by omega) ?_ | dsimp only)
      refine wst1 o4 (by rw [fillC_length]; decide) fun h5 o5 k5 => ?_
      repeat (first | (with_reducible refine wia3 (by omega) ?_))
      refine wst1 o5 (by rw [List.length_set, fillC_length]; decide) fun h6 o6 k6 => ?_
      rw [fill_one] at o6
      repeat (first | with_reducible refine wadd1 (by omega) ?_)
      exact next2 _ _ (show 1 < m2 by omega) ⟨2, h6, rfl, rfl, by decide, o6, (ma4.kb k5 (o4.ne ma4).symm).kb k6 (o4.ne ma4).symm, (k4.kbs (Nat.le_refl _) k5 lss).kbs (Nat.le_refl _) k6 lss⟩
    · have e2' := e2 h4
      repeat (first | with_reducible refine wT ?_ | with_reducible refine wx0 ?_ | with_reducible refine wx1 ?_ | with_reducible refine wptr ?_ | with_reducible refine wbd (by assumption) ?_ | (with_reducible refine wbd (fs1 _) ?_) | (with_reducible refine wbd (fs2 _) ?_) | (with_reducible refine wia3 (by omega) ?_) | with_reducible refine wleqT (by omega) ?_ | dsimp only)
      refine wst1 o4 (by rw [fillC_length]; decide) fun h5 o5 k5 => ?_
      repeat (first | (with_reducible refine wia3 (by omega) ?_))
      refine wst1 o5 (by rw [List.length_set, fillC_length]; decide) fun h6 o6 k6 => ?_
      rw [fill_two] at o6
      repeat (first | with_reducible refine wadd1 (by omega) ?_)
      exact next2 _ _ (show 0 < m2 by omega) ⟨3, h6, rfl, rfl, by decide, o6, (ma4.kb k5 (o4.ne ma4).symm).kb k6 (o4.ne ma4).symm, (k4.kbs (Nat.le_refl _) k5 lss).kbs (Nat.le_refl _) k6 lss⟩
    · repeat (first | with_reducible refine wF ?_ | with_reducible refine wrP ?_ | with_reducible refine wleqF (by omega) ?_ | rw [kLoop_exit] | rw [impl_newSearch.after1_se2_0_1_5_7_29])
      rw [fill_done] at o4
      exact W.ret ⟨s, m, rfl, ⟨o4, [], ma4, fun p hp => by cases hp⟩, k4, lss, Nat.le_trans (Nat.le_refl _) lm⟩

/-! ### where it begins -/
theorem bldSt (t : Nat) : buildP Tryd.prog 47 [(1, .int .i64 (t : Int))] = some (stP 0 0 0 t) := by kernel_rfl
theorem standingOf_W {xs : List Int} {p : PV} {h : PHeap} (hp : IntSl .i64 h p xs) (hl : xs.length ≤ 20) (t : Nat) (N : Nat) (hN : 2 ≤ N) (hlf : 1000 < lf) :
    W (CL g lf N fn_impl_standingOf [p, .int .i64 (t : Int)] h) fun v h' => v = stP (setL xs 0) (setL xs 1) (setL xs 2) t ∧ Keep h.length h h' := by
  obtain ⟨n, rfl⟩ : ∃ n, N = n + 1 := ⟨N - 1, by omega⟩
  rw [impl_standingOf.call_eq]
  unfold impl_standingOf.main
  simp only [env_lf, env_alloc, env_build, env_store]
  refine walS fun h1 id1 o1 k1 l1 => ?_
  refine wbd (bldSt t) ?_
  dsimp only
  refine walS fun h2 id2 o2 k2 l2 => ?_
  dsimp only
  have o1' := o1.keep k2
  have hne : id1 ≠ id2 := by have := o1.lt; omega
  refine wstS o2 fun h3 o3 k3 => ?_
  have o13 := o1'.kb k3 hne
  have kk : Keep h.length h h3 := (k1.trans (k2.mono k1.1)).kbs (Nat.le_refl _) k3 (Nat.le_trans k1.1 l2)
  have ll2 : h.length ≤ id2 := Nat.le_trans k1.1 l2
  refine loopW (fun m' st => ∃ (P u v w : Nat) (h4 : PHeap), st = impl_standingOf.st0 p (.ptr id1 0) (.ptr id2 0) (.int .i64 (P : Int)) h4 ∧ P + m' = 3 ∧ At h4 id2 (stC u v w t) ∧ At h4 id1 (stC 0 0 0 0) ∧ Keep h.length h h4 ∧ (1 ≤ P → u = setL xs 0) ∧ (2 ≤ P → v = setL xs 1) ∧ (3 ≤ P → w = setL xs 2)) ?_ lf 3 _ (by omega) ⟨0, 0, 0, 0, h3, rfl, rfl, o3, o13, kk, by omega, by omega, by omega⟩
  rintro n1 m1 st ⟨P, u, v, w, h4, rfl, hPm, o4, o14, k4, hu, hv, hw⟩ next
  have hP : P = 0 ∨ P = 1 ∨ P = 2 ∨ P = 3 := by omega
  have hp4 := hp.keep k4
  have e0 := setOf_W g lf ((0 : Nat) : Int) hp4 hl n (by omega) hlf
  have e1 := setOf_W g lf ((1 : Nat) : Int) hp4 hl n (by omega) hlf
  have e2 := setOf_W g lf ((2 : Nat) : Int) hp4 hl n (by omega) hlf
  rw [impl_standingOf.body0_eq]
  unfold impl_standingOf.body0
  simp only [env_C, env_store, env_bin, env_fieldAddr, env_indexAddr]
  rcases hP with rfl | rfl | rfl | rfl
  · repeat (first | with_reducible refine wT ?_ | with_reducible refine wbd (by assumption) ?_ | (with_reducible refine wbd (fSt0 _) ?_) | (with_reducible refine wia3 (by omega) ?_) | with_reducible refine wlssT (by omega) ?_ | dsimp only)
    refine wst1 o4 (show 0 + 0 < 4 by decide) fun h5 o5 k5 => ?_
    repeat (first | with_reducible refine wadd1 (by omega) ?_)
    exact next _ _ (show 2 < m1 by omega) ⟨1, setL xs 0, v, w, h5, rfl, rfl, o5, o14.kb k5 hne, k4.kbs (Nat.le_refl _) k5 ll2, fun _ => rfl, by omega, by omega⟩
  · repeat (first | with_reducible refine wT ?_ | with_reducible refine wbd (by assumption) ?_ | (with_reducible refine wbd (fSt0 _) ?_) | (with_reducible refine wia3 (by omega) ?_) | with_reducible refine wlssT (by omega) ?_ | dsimp only)
    refine wst1 o4 (show 0 + 1 < 4 by decide) fun h5 o5 k5 => ?_
    repeat (first | with_reducible refine wadd1 (by omega) ?_)
    exact next _ _ (show 1 < m1 by omega) ⟨2, u, setL xs 1, w, h5, rfl, rfl, o5, o14.kb k5 hne, k4.kbs (Nat.le_refl _) k5 ll2, fun _ => hu (by decide), fun _ => rfl, by omega⟩
  · repeat (first | with_reducible refine wT ?_ | with_reducible refine wbd (by assumption) ?_ | (with_reducible refine wbd (fSt0 _) ?_) | (with_reducible refine wia3 (by omega) ?_) | with_reducible refine wlssT (by omega) ?_ | dsimp only)
    refine wst1 o4 (show 0 + 2 < 4 by decide) fun h5 o5 k5 => ?_
    repeat (first | with_reducible refine wadd1 (by omega) ?_)
    exact next _ _ (show 0 < m1 by omega) ⟨3, u, v, setL xs 2, h5, rfl, rfl, o5, o14.kb k5 hne, k4.kbs (Nat.le_refl _) k5 ll2, fun _ => hu (by decide), fun _ => hv (by decide), fun _ => rfl⟩
  · repeat (first | with_reducible refine wF ?_ | (with_reducible refine wbd (ldS (by assumption)) ?_) | with_reducible refine wlssF (by omega) ?_ | rw [kLoop_exit] | rw [impl_standingOf.after0_se0_0_4_5_9_10] | simp only [env_C, env_Y, env_g, env_lf, env_pick, env_alloc, env_box, env_build, env_buildSlice, env_load, env_store, env_ptr, env_bin, env_un, env_conv, env_make, env_slice, env_fieldAddr, env_field, env_indexAddr, env_index, env_extract, env_len, env_append, env_max, env_min, env_makeMap, env_lookup, env_update, env_clos, env_bstr, env_ext])
    refine wstS o14 fun h5 o5 k5 => ?_
    repeat (first | (with_reducible refine wbd (ldS (by assumption)) ?_))
    exact W.ret ⟨by rw [hu (by decide), hv (by decide), hw (by decide)], k4.kbs (Nat.le_refl _) k5 l1⟩

theorem stands_of {R C T : Nat} {xs : List Int} (hS : Sides (R : Int) (C : Int) R C xs) (hT : T = 1 ∨ T = 2) : Stands R C (setL xs 0) (setL xs 1) (setL xs 2) T := by
  refine ⟨pos_sets hS, set_lt9 hS 0, fun k => ?_, hT⟩
  rw [setL_bit]
  constructor
  · intro hk
    have hkl := set_in hS (setL_bit.2 hk)
    exact ⟨hkl, (free_bit hS hkl).2 hk⟩
  · rintro ⟨h1, h2⟩; exact (free_bit hS h1).1 h2

end Go.Proofs.YtpaehbfknlpkbacDoor

/- The program's chapter 3: MoveOk, Played, WinnerOf, WinningCells and LinePlayed compute what the model's do. -/
set_option maxRecDepth 20000
namespace Go.Proofs.YtpaehbfknlpkbacDoor
open Go Go.Ip G

variable (g : Nat → PV) (lf n : Nat)

/-! ### moves -/
theorem moveOk_W (hlf : 1000 < lf) (N : Nat) (hN : 30 ≤ N) (r c k pl : Int) {xs : List Int} {p : PV} {h : PHeap} (ht : TabOk g h) (hp : IntSl .i64 h p xs) (hl : xs.length ≤ 2 ^ 35) (hf : xs.length < lf) :
    ∃ h', CL g lf N fn_impl_MoveOk [.int .i64 r, .int .i64 c, p, .int .i64 k, .int .i64 pl] h = some (.bool (moveL r c xs k pl), h') ∧ Keep h.length h h' := by
  obtain ⟨n, rfl⟩ : ∃ n, N = n + 1 := ⟨N - 1, by omega⟩
  have hpos := positionOk_N g lf n (by omega) r c hp (by omega) hf
  have hplay := playerOk_W g lf n (by omega) h pl
  have hcell := cellOk_N g lf n (by omega) h r c k
  have : W (CL g lf (n + 1) fn_impl_MoveOk [.int .i64 r, .int .i64 c, p, .int .i64 k, .int .i64 pl] h) fun v h' => v = .bool (moveL r c xs k pl) ∧ Keep h.length h h' := by
    rw [impl_MoveOk.call_eq]
    unfold impl_MoveOk.main
    simp only [env_C, env_pick, env_load, env_bin, env_un, env_indexAddr]
    unfold moveL
    cases hb : posB r c xs with
    | false =>
      rw [hb] at hpos
      repeat (first | with_reducible refine wT ?_ | with_reducible refine wg0 rfl ?_ | with_reducible refine wpT ?_ | with_reducible refine wnF ?_ | with_reducible refine wsm ?_ | with_reducible refine wrB ?_ | with_reducible refine wbd (by assumption) ?_ | dsimp only)
      exact W.ret ⟨rfl, Keep.refl _ _⟩
    | true =>
      rw [hb] at hpos
      cases hpl : playerB pl with
      | false =>
        rw [hpl] at hplay
        repeat (first | with_reducible refine wT ?_ | with_reducible refine wg1 rfl ?_ | with_reducible refine wg0 rfl ?_ | with_reducible refine wpT ?_ | with_reducible refine wpF ?_ | with_reducible refine wnT ?_ | with_reducible refine wnF ?_ | with_reducible refine wpv ?_ | with_reducible refine wsm ?_ | with_reducible refine wrB ?_ | with_reducible refine wbd (by assumption) ?_ | dsimp only)
        exact W.ret ⟨rfl, Keep.refl _ _⟩
      | true =>
        rw [hpl] at hplay
        obtain ⟨R, C, hS⟩ := sides_of hb
        obtain ⟨rfl, rfl, _, _, _, _, h9, hlen, _⟩ := id hS
        have hbb : boardB (R : Int) (C : Int) = true := by unfold posB at hb; simp only [Bool.and_eq_true] at hb; exact hb.1.1
        have hcb : cellB (R : Int) (C : Int) k = decide (0 ≤ k ∧ k < (xs.length : Int)) := by
          unfold cellB; rw [hbb, hlen, Bool.true_and]; rfl
        rw [hcb] at hcell
        cases hk : decide (0 ≤ k ∧ k < (xs.length : Int)) with
        | false =>
          rw [hk] at hcell
          repeat (first | with_reducible refine wT ?_ | with_reducible refine wg1 rfl ?_ | with_reducible refine wpF ?_ | with_reducible refine wnT ?_ | with_reducible refine wnF ?_ | with_reducible refine wpv ?_ | with_reducible refine wsm ?_ | with_reducible refine wrB ?_ | with_reducible refine wbd (by assumption) ?_ | dsimp only)
          exact W.ret ⟨rfl, Keep.refl _ _⟩
        | true =>
          rw [hk] at hcell
          have hkb := of_decide_eq_true hk
          obtain ⟨K, rfl⟩ := Int.eq_ofNat_of_zero_le hkb.1
          have hK : K < xs.length := by omega
          have hgd : xs.getD (K : Int).toNat 0 = xs[K] := by
            rw [show ((K : Int).toNat) = K from rfl, List.getD_eq_getElem?_getD, List.getElem?_eq_getElem hK]; rfl
          rw [hgd]
          obtain ⟨h1, e1, k1⟩ := joinsOk g lf hlf n (by omega) R C 1 ht hp hl hf
          obtain ⟨h2, e2, k2⟩ := joinsOk g lf hlf n (by omega) R C 2 (ht.keep k1) (hp.keep k1) hl hf
          repeat (first | with_reducible refine wF ?_ | with_reducible refine wg1 rfl ?_ | with_reducible refine wpF ?_ | with_reducible refine wnT ?_ | with_reducible refine wpv ?_ | with_reducible refine wsm ?_ | with_reducible refine wbd (by assumption) ?_ | (with_reducible refine wat hp hK fun a hl => ?_) | dsimp only)
          refine weql (fun e => ?_) (fun e => ?_)
          · rw [decide_eq_true e]
            cases hj1 : joinsL (R : Int) (C : Int) xs 1 with
            | true =>
              rw [hj1] at e1
              repeat (first | with_reducible refine wg1 rfl ?_ | with_reducible refine wg0 rfl ?_ | with_reducible refine wpT ?_ | with_reducible refine wpF ?_ | with_reducible refine wnT ?_ | with_reducible refine wpv ?_ | with_reducible refine wsm ?_ | with_reducible refine wrB ?_ | with_reducible refine wbd (by assumption) ?_ | dsimp only)
              exact W.ret ⟨by simp, k1⟩
            | false =>
              rw [hj1] at e1
              cases hj2 : joinsL (R : Int) (C : Int) xs 2 with
              | true =>
                rw [hj2] at e2
                repeat (first | with_reducible refine wg1 rfl ?_ | with_reducible refine wpT ?_ | with_reducible refine wnT ?_ | with_reducible refine wnF ?_ | with_reducible refine wpv ?_ | with_reducible refine wsm ?_ | with_reducible refine wrB ?_ | with_reducible refine wbd (by assumption) ?_ | dsimp only)
                exact W.ret ⟨by simp, k1.trans (k2.mono k1.1)⟩
              | false =>
                rw [hj2] at e2
                repeat (first | with_reducible refine wg1 rfl ?_ | with_reducible refine wpT ?_ | with_reducible refine wnF ?_ | with_reducible refine wpv ?_ | with_reducible refine wsm ?_ | with_reducible refine wrB ?_ | with_reducible refine wbd (by assumption) ?_ | dsimp only)
                exact W.ret ⟨by simp, k1.trans (k2.mono k1.1)⟩
          · rw [decide_eq_false e]
            repeat (first | with_reducible refine wg0 rfl ?_ | with_reducible refine wpF ?_ | with_reducible refine wsm ?_ | with_reducible refine wrB ?_ | dsimp only)
            exact W.ret ⟨by simp, Keep.refl _ _⟩
  obtain ⟨_, h', e, rfl, k⟩ := this
  exact ⟨h', e, k⟩

theorem clone_W {xs : List Int} {p : PV} {h : PHeap} (hp : IntSl .i64 h p xs) (hx : 0 < xs.length) (hl : xs.length ≤ 2 ^ 36) (N : Nat) (hN : 1 ≤ N) :
    W (CL g lf N fn_slices_Clone___int_int_ [p] h) fun q h' => OwnSl h.length h' q xs ∧ Keep h.length h h' := by
  obtain ⟨n, rfl⟩ : ∃ n, N = n + 1 := ⟨N - 1, by omega⟩
  obtain ⟨v, q, h2, e2, e3, o2, k2⟩ := copy_all hp hx hl
  rw [slices_Clone___int_int_.call_eq]
  unfold slices_Clone___int_int_.main
  simp only [env_buildSlice, env_bin, env_append]
  rcases hp with ⟨rfl, rfl⟩ | ⟨id, off, rfl, hc⟩
  · simp at hx
  · refine wnilF ?_
    repeat (first | with_reducible refine wF ?_ | with_reducible refine wbd (by assumption) ?_ | with_reducible refine wresO (by assumption) ?_ | dsimp only)
    exact W.ret ⟨o2, k2⟩

theorem playedOk (hlf : 1000 < lf) : PlayedOk g lf := by
  intro N hN r c k pl xs p h ht hp hl hf
  obtain ⟨n, rfl⟩ : ∃ n, N = n + 1 := ⟨N - 1, by omega⟩
  obtain ⟨h1, e1, k1⟩ := moveOk_W g lf hlf n (by omega) r c k pl ht hp hl hf
  have : W (CL g lf (n + 1) fn_impl_Played [.int .i64 r, .int .i64 c, p, .int .i64 k, .int .i64 pl] h) fun v h' => ∃ q, v = .tup [q, .bool (moveL r c xs k pl)] ∧ OwnSl h.length h' q (playedL r c xs k pl) ∧ Keep h.length h h' := by
    rw [impl_Played.call_eq]
    unfold impl_Played.main
    simp only [env_C, env_store, env_un, env_indexAddr]
    unfold playedL
    cases hm : moveL r c xs k pl with
    | false =>
      rw [hm] at e1
      repeat (first | with_reducible refine wT ?_ | with_reducible refine wnF ?_ | with_reducible refine wrB ?_ | with_reducible refine wrN ?_ | with_reducible refine wbd (by assumption) ?_ | dsimp only)
      exact W.ret ⟨_, rfl, OwnSl.nil _ _, k1⟩
    | true =>
      rw [hm] at e1
      obtain ⟨K, rfl, hK⟩ := moveL_cell hm
      repeat (first | with_reducible refine wF ?_ | with_reducible refine wnT ?_ | with_reducible refine wbd (by assumption) ?_ | dsimp only | simp only [env_C, env_Y, env_g, env_lf, env_pick, env_alloc, env_box, env_build, env_buildSlice, env_load, env_store, env_ptr, env_bin, env_un, env_conv, env_make, env_slice, env_fieldAddr, env_field, env_indexAddr, env_index, env_extract, env_len, env_append, env_max, env_min, env_makeMap, env_lookup, env_update, env_clos, env_bstr, env_ext])
      refine wcall (clone_W g lf (hp.keep k1) (by omega) (by omega) n (by omega)) fun q h2 ⟨o2, k2⟩ => ?_
      repeat (first | with_reducible refine wrB ?_ | (refine wst o2 hK fun h3 o3 k3 l3 a e4 => ?_) | with_reducible refine wresO (by assumption) ?_ | dsimp only)
      skip
      exact W.ret ⟨_, rfl, o3.mono k1.1, k1.trans ((k2.trans k3).mono k1.1)⟩
  obtain ⟨_, h', e, q, rfl, o, k⟩ := this
  exact ⟨q, h', e, o, k⟩

/-! ### who wins -/
/-! ### a line -/
/-- A list of integers at an object of its own. -/
def SlAt (i : Nat) (h : PHeap) (p : PV) (ys : List Int) : Prop := (p = .nilsl ∧ ys = []) ∨ (p = .sl i 0 ys.length ∧ At h i (ys.map (.int .i64)))
theorem SlAt.keep {i : Nat} {h h' : PHeap} {p : PV} {ys : List Int} (s : SlAt i h p ys) (k : Keep h.length h h') : SlAt i h' p ys := by
  rcases s with s | ⟨a, b⟩
  · exact .inl s
  · exact .inr ⟨a, b.keep k⟩
theorem SlAt.kb {i m : Nat} {h h' : PHeap} {p : PV} {ys : List Int} (s : SlAt i h p ys) (k : KB m h h') (hn : i ≠ m) : SlAt i h' p ys := by
  rcases s with s | ⟨a, b⟩
  · exact .inl s
  · exact .inr ⟨a, b.kb k hn⟩
theorem SlAt.own {i n : Nat} {h : PHeap} {p : PV} {ys : List Int} (s : SlAt i h p ys) (hn : n ≤ i) : OwnSl n h p ys := by
  rcases s with s | ⟨a, b⟩
  · exact .inl s
  · exact .inr ⟨i, hn, a, b⟩
theorem wapS {Q : PV → PHeap → Prop} {i : Nat} {h : PHeap} {p : PV} {ys : List Int} (s : SlAt i h p ys) {x : Int} (hl : ys.length + 1 ≤ 2 ^ 36) {F : PV × PHeap → Res}
    (hf : ∀ p' h' j, SlAt j h' p' (ys ++ [x]) → KB i h h' → h.length ≤ j → W (F (p', h')) Q) :
    W ((buildSliceP Tryd.prog 23 1 [(0, .int .i64 x)] h).bind fun v => (appendP Tryd.prog 23 23 p v.1 v.2).bind F) Q := by
  have hb : buildSliceP Tryd.prog 23 1 [(0, .int .i64 x)] h = some (.sl h.length 0 1, h ++ [.own 1 [.int .i64 x]]) := by
    simp [buildSliceP, tyElem, tySize, tyZero, repeatCells, fillP, PV.cells, setCells]
  have hsrc : srcP (h ++ [.own 1 [.int .i64 x]]) 1 (.sl h.length 0 1) = some (1, [.int .i64 x]) := by
    simp [srcP, cellsAt, PObj.get]
  refine wbd hb ?_
  rcases s with ⟨rfl, rfl⟩ | ⟨rfl, h3⟩
  · refine wbd (v := (.sl (h.length + 1) 0 1, h ++ [.own 1 [.int .i64 x]] ++ [.own 1 [.int .i64 x]])) (by simp [appendP, tyElem, tySize, tySmall, hsrc]) ?_
    refine hf _ _ (h.length + 1) (.inr ⟨rfl, ?_⟩) ?_ (by omega)
    · unfold At; rw [List.getElem?_append_right (by simp)]; simp
    · rw [List.append_assoc]; exact (Keep.append _ _ _ (Nat.le_refl _)).kb
  · have hid := h3.lt
    have h3' : (h ++ [PObj.own 1 [.int .i64 x]])[i]? = some (.own 1 (ys.map (.int .i64))) := by rw [List.getElem?_append_left hid]; exact h3
    refine wbd (v := (.sl (h.length + 1) 0 (ys.length + 1), ((h ++ [PObj.own 1 [.int .i64 x]]).set i .dead ++ [PObj.own 1 (ys.map (.int .i64) ++ [.int .i64 x])]))) (by simp [appendP, tyElem, tySize, tySmall, hsrc, h3', hl]) ?_
    refine hf _ _ (h.length + 1) (.inr ⟨by simp, ?_⟩) ?_ (by omega)
    · unfold At; rw [List.getElem?_append_right (by simp)]; simp
    · refine ⟨by simp; omega, fun j hj hne => ?_⟩
      rw [List.getElem?_append_left (by simp; omega), List.getElem?_set_ne (by omega), List.getElem?_append_left hj]
theorem Sch.kbo {R C s m i : Nat} {h h' : PHeap} (hs : Sch R C h s m) (k : KB i h h') (h1 : s ≠ i) (h2 : m ≠ i) : Sch R C h' s m := by
  obtain ⟨a, es, b, c⟩ := hs; exact ⟨a.kb k h1, es, b.kb k h2, c⟩
end Go.Proofs.YtpaehbfknlpkbacDoor

/- The program's chapter 4: PairCell and PairFilled compute what the model's do, and boards that are free or wider. -/
set_option maxRecDepth 20000
namespace Go.Proofs.YtpaehbfknlpkbacDoor
open Go Go.Ip G

/-! ### a number's lowest bit -/
section
variable {Q : PV → PHeap → Prop} {x : Nat} {f : PV → Res}
end

variable (g : Nat → PV) (lf n : Nat)

/-! ### boards that are free, and boards that are wider -/
theorem freeBoard_W (N : Nat) (hN : 3 ≤ N) (h : PHeap) (r c : Int) :
    ∃ q h', CL g lf N fn_impl_freeBoard [.int .i64 r, .int .i64 c] h = some (q, h') ∧ OwnSl h.length h' q (if boardB r c = true then freeL r.toNat c.toNat else []) ∧ Keep h.length h h' := by
  obtain ⟨n, rfl⟩ : ∃ n, N = n + 1 := ⟨N - 1, by omega⟩
  have e1 := boardOk_N g lf n (by omega) h r c
  suffices this : W (CL g lf (n + 1) fn_impl_freeBoard [.int .i64 r, .int .i64 c] h) fun q h' => OwnSl h.length h' q (if boardB r c = true then freeL r.toNat c.toNat else []) ∧ Keep h.length h h' by
    obtain ⟨q, h', e, o, k⟩ := this
    exact ⟨q, h', e, o, k⟩
  rw [impl_freeBoard.call_eq]
  unfold impl_freeBoard.main
  simp only [env_C, env_bin, env_un, env_make]
  cases hb : boardB r c with
  | false =>
    rw [hb] at e1
    repeat (first | with_reducible refine wT ?_ | with_reducible refine wnF ?_ | with_reducible refine wrN ?_ | with_reducible refine wbd (by assumption) ?_ | dsimp only)
    exact W.ret ⟨OwnSl.nil _ _, Keep.refl _ _⟩
  | true =>
    rw [hb] at e1
    obtain ⟨R, C, rfl, rfl, hB⟩ := boardB_of hb
    obtain ⟨h1, h2, h3, h4, h9⟩ := id hB
    repeat (first | with_reducible refine wF ?_ | with_reducible refine wnT ?_ | with_reducible refine wbd (by assumption) ?_ | (refine wmake (by omega) fun q h1 o1 k1 => ?_) | with_reducible refine wmulN (by omega) ?_ | with_reducible refine wresO (by assumption) ?_ | dsimp only | simp only [env_C, env_Y, env_g, env_lf, env_pick, env_alloc, env_box, env_build, env_buildSlice, env_load, env_store, env_ptr, env_bin, env_un, env_conv, env_make, env_slice, env_fieldAddr, env_field, env_indexAddr, env_index, env_extract, env_len, env_append, env_max, env_min, env_makeMap, env_lookup, env_update, env_clos, env_bstr, env_ext])
    exact W.ret ⟨o1, k1⟩

/-! ### partners -/
/-! ### pairs that are shared -/
end Go.Proofs.YtpaehbfknlpkbacDoor

/- What the program's functions of chapter 11 compute: names of cells, records, their ends and texts. -/
set_option maxRecDepth 20000
namespace Go.Proofs.YtpaehbfknlpkbacDoor
open Go Go.Ip G

/-! ### small numbers as texts -/
theorem digs_at {x : Nat} (hx : x < 10) : (([48, 49, 50, 51, 52, 53, 54, 55, 56, 57, 97, 98, 99, 100, 101, 102, 103, 104, 105, 106, 107, 108, 109, 110, 111, 112, 113, 114, 115, 116, 117, 118, 119, 120, 121, 122] : List UInt8).drop x).take (x + 1 - x) = [UInt8.ofNat (48 + x)] := by
  have : x = 0 ∨ x = 1 ∨ x = 2 ∨ x = 3 ∨ x = 4 ∨ x = 5 ∨ x = 6 ∨ x = 7 ∨ x = 8 ∨ x = 9 := by omega
  rcases this with rfl | rfl | rfl | rfl | rfl | rfl | rfl | rfl | rfl | rfl <;> decide
theorem wrap_i32 {x : Nat} (hx : x < 1000) : IntKind.i32.wrap (x : Int) = (x : Int) := by rw [IntKind.wrap_i32]; omega
theorem conv_r32 {x : Nat} (hx : x < 1000) : convP Tryd.prog 3 21 (.int .i64 (x : Int)) = some (.int .i32 (x : Int)) := by
  have h1 : convP Tryd.prog 3 21 (.int .i64 (x : Int)) = some (.int .i32 (IntKind.i32.wrap (x : Int))) := by kernel_rfl
  have h2 : IntKind.i32.wrap (x : Int) = (x : Int) := wrap_i32 hx
  rw [h1, h2]
theorem conv_rs {x : Nat} (hx : x < 128) : convP Tryd.prog 21 9 (.int .i32 (x : Int)) = some (.str (sB [UInt8.ofNat x])) := by
  have h1 : convP Tryd.prog 21 9 (.int .i32 (x : Int)) = if 0 ≤ (x : Int) ∧ (x : Int) < 128 then some (.str (sB [UInt8.ofNat (x : Int).toNat])) else none := by kernel_rfl
  rw [h1, if_pos ⟨by omega, by omega⟩, Int.toNat_natCast]
theorem add97 {x : Nat} (hx : x < 1000) : binP Tryd.prog .add 3 (.int .i64 97) (.int .i64 (x : Int)) = some (.int .i64 ((97 + x : Nat) : Int)) := by
  rw [bin_add, wr (by omega)]; congr 2

variable (g : Nat → PV) (lf n : Nat)

theorem small_N {x : Nat} (hx : x < 10) (N : Nat) (hN : 1 ≤ N) (h : PHeap) : CL g lf N fn_internal_strconv_small [.int .i64 (x : Int)] h = some (.str (sB [UInt8.ofNat (48 + x)]), h) := by
  obtain ⟨n, rfl⟩ : ∃ n, N = n + 1 := ⟨N - 1, by omega⟩
  suffices this : W (CL g lf (n + 1) fn_internal_strconv_small [.int .i64 (x : Int)] h) fun v h' => v = .str (sB [UInt8.ofNat (48 + x)]) ∧ h' = h by
    obtain ⟨_, _, e, rfl, rfl⟩ := this; exact e
  rw [internal_strconv_small.call_eq]
  unfold internal_strconv_small.main
  simp only [env_bin, env_slice]
  repeat (first | with_reducible refine wT ?_ | with_reducible refine wadd1 (by omega) ?_ | with_reducible refine wlssT (by omega) ?_)
  refine wssl (i := x) (j := x + 1) (by omega) (by show _ ≤ 36; omega) ?_
  rw [digs_at hx]
  repeat (first | (with_reducible refine wrT ?_))
  exact W.ret ⟨rfl, rfl⟩
theorem itoa_N {x : Nat} (hx : x < 10) (N : Nat) (hN : 4 ≤ N) (h : PHeap) : CL g lf N fn_strconv_Itoa [.int .i64 (x : Int)] h = some (.str (sB [UInt8.ofNat (48 + x)]), h) := by
  obtain ⟨n, rfl⟩ : ∃ n, N = n + 3 := ⟨N - 3, by omega⟩
  have e0 := small_N g lf hx n (by omega) h
  have e1 : CL g lf (n + 1) fn_internal_strconv_FormatInt [.int .i64 (x : Int), .int .i64 10] h = some (.str (sB [UInt8.ofNat (48 + x)]), h) := by
    suffices this : W (CL g lf (n + 1) fn_internal_strconv_FormatInt [.int .i64 (x : Int), .int .i64 10] h) fun v h' => v = .str (sB [UInt8.ofNat (48 + x)]) ∧ h' = h by
      obtain ⟨_, _, e, rfl, rfl⟩ := this; exact e
    rw [internal_strconv_FormatInt.call_eq]
    unfold internal_strconv_FormatInt.main
    simp only [env_C, env_pick, env_alloc, env_store, env_bin, env_un, env_conv, env_slice, env_indexAddr, env_extract, env_bstr]
    repeat (first | with_reducible refine wT ?_ | with_reducible refine wg1 rfl ?_ | with_reducible refine wpT ?_ | with_reducible refine wpv ?_ | with_reducible refine wsm ?_ | with_reducible refine wbd (by assumption) ?_ | (with_reducible refine wrT ?_) | with_reducible refine wlssT (by omega) ?_ | with_reducible refine wleqT (by omega) ?_ | with_reducible refine weqlT (by omega) ?_ | dsimp only)
    exact W.ret ⟨rfl, rfl⟩
  have e2 : CL g lf (n + 1 + 1) fn_internal_strconv_Itoa [.int .i64 (x : Int)] h = some (.str (sB [UInt8.ofNat (48 + x)]), h) := by
    suffices this : W (CL g lf (n + 1 + 1) fn_internal_strconv_Itoa [.int .i64 (x : Int)] h) fun v h' => v = .str (sB [UInt8.ofNat (48 + x)]) ∧ h' = h by
      obtain ⟨_, _, e, rfl, rfl⟩ := this; exact e
    rw [internal_strconv_Itoa.call_eq]
    unfold internal_strconv_Itoa.main
    simp only [env_C]
    repeat (first | with_reducible refine wbd (by assumption) ?_ | (with_reducible refine wrT ?_) | dsimp only)
    exact W.ret ⟨rfl, rfl⟩
  suffices this : W (CL g lf (n + 1 + 1 + 1) fn_strconv_Itoa [.int .i64 (x : Int)] h) fun v h' => v = .str (sB [UInt8.ofNat (48 + x)]) ∧ h' = h by
    obtain ⟨_, _, e, rfl, rfl⟩ := this; exact e
  rw [strconv_Itoa.call_eq]
  unfold strconv_Itoa.main
  simp only [env_C]
  repeat (first | with_reducible refine wbd (by assumption) ?_ | (with_reducible refine wrT ?_) | dsimp only)
  exact W.ret ⟨rfl, rfl⟩

/-! ### names of cells -/
theorem cellText_N (N : Nat) (hN : 6 ≤ N) (h : PHeap) (r c k : Int) : CL g lf N fn_impl_CellText [.int .i64 r, .int .i64 c, .int .i64 k] h = some (.str (sB (cellT r c k)), h) := by
  obtain ⟨n, rfl⟩ : ∃ n, N = n + 1 := ⟨N - 1, by omega⟩
  have e1 := cellOk_N g lf n (by omega) h r c k
  suffices this : W (CL g lf (n + 1) fn_impl_CellText [.int .i64 r, .int .i64 c, .int .i64 k] h) fun v h' => v = .str (sB (cellT r c k)) ∧ h' = h by
    obtain ⟨_, _, e, rfl, rfl⟩ := this; exact e
  rw [impl_CellText.call_eq]
  unfold impl_CellText.main
  simp only [env_C, env_bin, env_un, env_conv]
  cases hb : cellB r c k with
  | false =>
    rw [hb] at e1
    repeat (first | with_reducible refine wT ?_ | with_reducible refine wnF ?_ | with_reducible refine wbd (by assumption) ?_ | (with_reducible refine wrT ?_) | dsimp only)
    refine W.ret ⟨?_, rfl⟩
    rw [cellT_out]
    rintro ⟨a1, a2, a3⟩
    unfold cellB at hb
    rw [a1, decide_eq_true ⟨a2, a3⟩] at hb
    cases hb
  | true =>
    rw [hb] at e1
    have hbb : boardB r c = true := by unfold cellB at hb; rw [Bool.and_eq_true] at hb; exact hb.1
    obtain ⟨R, C, K, rfl, rfl, rfl, b1, b2, b3, b4, b9, hK⟩ := cell_of hb
    have hB : BoardOf R C := ⟨b1, b2, b3, b4, b9⟩
    have hmod := Nat.mod_lt K (show C > 0 by omega)
    have hdiv : K / C ≤ K := Nat.div_le_self K C
    have e2 := itoa_N g lf (x := K / C + 1) (by omega) n (by omega) h
    repeat (first | with_reducible refine wF ?_ | with_reducible refine wnT ?_ | with_reducible refine wbd (by assumption) ?_ | (with_reducible refine wbd (add97 (by omega)) ?_) | (with_reducible refine wbd (conv_r32 (by omega)) ?_) | (with_reducible refine wbd (conv_rs (by omega)) ?_) | (with_reducible refine wsadd (by simp) ?_) | (with_reducible refine wrT ?_) | with_reducible refine wadd1 (by omega) ?_ | with_reducible refine wquoN (by omega) (by omega) ?_ | with_reducible refine wremN (by omega) ?_ | dsimp only)
    refine W.ret ⟨?_, rfl⟩
    rw [cellT_in hB hbb hK, show 48 + (K / C + 1) = 49 + K / C by omega]
    rfl
theorem cellTextOk : CellTextOk g lf := fun N hN r c k h => ⟨h, cellText_N g lf N (by omega) h r c k, Keep.refl _ _⟩

theorem readCell_W (hlf : 1000 < lf) (N : Nat) (hN : 7 ≤ N) (r c : Int) (s : List UInt8) (h : PHeap) :
    W (CL g lf N fn_impl_ReadCell [.int .i64 r, .int .i64 c, .str (sB s)] h) fun v h' => v = readV (readI r c s) ∧ Keep h.length h h' := by
  obtain ⟨n, rfl⟩ : ∃ n, N = n + 1 := ⟨N - 1, by omega⟩
  obtain ⟨q, h1, e1, o1, k1⟩ := freeBoard_W g lf n (by omega) h r c
  have eT : ∀ k h', CL g lf n fn_impl_CellText [.int .i64 r, .int .i64 c, .int .i64 k] h' = some (.str (sB (cellT r c k)), h') := fun k h' => cellText_N g lf n (by omega) h' r c k
  rw [impl_ReadCell.call_eq]
  unfold impl_ReadCell.main
  simp only [env_C, env_lf, env_len]
  generalize hL : (if boardB r c = true then freeL r.toNat c.toNat else []) = L at o1
  have hLl : L.length = if boardB r c = true then r.toNat * c.toNat else 0 := by
    rw [← hL]; split <;> simp [freeL]
  have hlen := o1.int.len'
  have hL9 : L.length ≤ 9 := by
    rw [hLl]; split
    · rename_i hb
      obtain ⟨R, C, rfl, rfl, hB⟩ := boardB_nat hb
      exact hB.2.2.2.2
    · omega
  repeat (first | with_reducible refine wbd (by assumption) ?_ | dsimp only)
  refine loopW (fun m st => ∃ k : Nat, st = impl_ReadCell.st0 (.int .i64 r) (.int .i64 c) (.str (sB s)) (.int .i64 (L.length : Int)) (.int .i64 (k : Int)) h1 ∧ k + m = L.length ∧ ∀ j, j < k → cellT r c (j : Int) ≠ s) ?_ lf L.length _ (by omega) ⟨0, rfl, by omega, fun j hj => by omega⟩
  rintro n1 m1 st ⟨k, rfl, hkm, hno⟩ next
  rw [impl_ReadCell.body0_eq]
  unfold impl_ReadCell.body0
  simp only [env_C, env_bin]
  have hrd : ∀ k, k ≤ L.length → readI r c s = if boardB r c = true then (List.range L.length).find? (fun k : Nat => decide (cellT r c (k : Int) = s)) else none := by
    intro _ _
    unfold readI
    split
    · rename_i hb
      rw [hLl, if_pos hb]
      obtain ⟨R, C, rfl, rfl, hB⟩ := boardB_nat hb
      rw [← Int.natCast_mul]; rfl
    · rfl
  cases m1 with
  | zero =>
    repeat (first | with_reducible refine wF ?_ | with_reducible refine wrI ?_ | with_reducible refine wrB ?_ | with_reducible refine wlssF (by omega) ?_ | rw [kLoop_exit] | rw [impl_ReadCell.after0_se0_0_1_2_12_13_14])
    refine W.ret ⟨?_, k1⟩
    rw [hrd 0 (by omega)]
    have : (List.range L.length).find? (fun k : Nat => decide (cellT r c (k : Int) = s)) = none := by
      rw [List.find?_eq_none]
      intro j hj
      have := hno j (by have := List.mem_range.1 hj; omega)
      simpa using this
    rw [this]
    split <;> rfl
  | succ m1 =>
    repeat (first | with_reducible refine wT ?_ | (with_reducible refine wbd (eT _ _) ?_) | with_reducible refine wlssT (by omega) ?_ | rw [kLoop_ret] | dsimp only)
    by_cases he : cellT r c (k : Int) = s
    · refine wseqT he ?_
      repeat (first | with_reducible refine wT ?_ | with_reducible refine wrI ?_ | with_reducible refine wrB ?_ | rw [impl_ReadCell.K0_ret] | rw [impl_ReadCell.top_sr_6_7])
      refine W.ret ⟨?_, k1⟩
      have hbb : boardB r c = true := by
        cases hb : boardB r c with
        | true => rfl
        | false => rw [hb, if_neg (by decide)] at hLl; omega
      obtain ⟨R, C, rfl, rfl, hB⟩ := boardB_nat hbb
      have hLR : L.length = R * C := by rw [hLl, if_pos hbb]; rfl
      have hk : k < R * C := by omega
      rw [cellT_in hB hbb hk] at he
      rw [← he, readI_name hB hbb hk]; rfl
    · refine wseqF he ?_
      repeat (first | with_reducible refine wF ?_ | with_reducible refine wadd1 (by omega) ?_)
      refine next _ _ (Nat.lt_succ_self _) ⟨k + 1, rfl, by omega, fun j hj => ?_⟩
      rcases Nat.lt_or_ge j k with hlt | hge
      · exact hno j hlt
      · obtain rfl : j = k := by omega
        exact he
theorem readCellOk (hlf : 1000 < lf) : ReadCellOk g lf := fun N hN r c s h => by
  obtain ⟨_, h', e, rfl, k⟩ := readCell_W g lf hlf N (by omega) r c s h
  exact ⟨h', e, k⟩

/-! ### the end of a record -/
theorem rec_none {r c : Int} {ms : List Int} (hr : recB r c ms = false) : recTurn r c ms = 0 ∧ recEnd r c ms = [] := by
  refine ⟨by unfold recTurn; rw [hr]; rfl, ?_⟩
  unfold recEnd; split
  · rename_i hb
    unfold recB at hr
    rw [hb, Bool.true_and] at hr
    cases hq : playTo r c (startL r c) 1 ms with
    | none => rfl
    | some y => rw [hq] at hr; cases hr
  · rfl
theorem endOf_W (hlf : 1000 < lf) (r c : Int) {ms : List Int} {p : PV} {h : PHeap} (ht : TabOk g h) (hp : IntSl .i64 h p ms) (hl : ms.length ≤ 2 ^ 35) (hf : ms.length < lf) (N : Nat) (hN : 41 ≤ N) :
    W (CL g lf N fn_impl_EndOf [.int .i64 r, .int .i64 c, p] h) fun v h' => ∃ q, v = .tup [q, .int .i64 (recTurn r c ms)] ∧ OwnSl h.length h' q (recEnd r c ms) ∧ Keep h.length h h' := by
  obtain ⟨n, rfl⟩ : ∃ n, N = n + 1 := ⟨N - 1, by omega⟩
  have e1 := boardOk_N g lf n (by omega) h r c
  rw [impl_EndOf.call_eq]
  unfold impl_EndOf.main
  simp only [env_C, env_lf, env_un, env_len]
  cases hb : boardB r c with
  | false =>
    rw [hb] at e1
    obtain ⟨t0, x0⟩ := rec_none (r := r) (c := c) (ms := ms) (by unfold recB; rw [hb]; rfl)
    rw [t0, x0]
    repeat (first | with_reducible refine wT ?_ | with_reducible refine wnF ?_ | with_reducible refine wrI ?_ | with_reducible refine wrN ?_ | with_reducible refine wbd (by assumption) ?_ | dsimp only)
    exact W.ret ⟨_, rfl, OwnSl.nil _ _, Keep.refl _ _⟩
  | true =>
    rw [hb] at e1
    obtain ⟨q, h1, e2, o1, k1⟩ := freeBoard_W g lf n (by omega) h r c
    obtain ⟨R, C, rfl, rfl, hB⟩ := boardB_nat hb
    obtain ⟨b1, b2, b3, b4, b9⟩ := id hB
    rw [hb, if_pos rfl, show freeL (R : Int).toNat (C : Int).toNat = startL (R : Int) (C : Int) from (start_nat R C).symm] at o1
    have hlen := hp.len'
    repeat (first | with_reducible refine wF ?_ | with_reducible refine wnT ?_ | with_reducible refine wbd (by assumption) ?_ | dsimp only)
    refine loopW (fun m st => ∃ (k T : Nat) (ys : List Int) (q' : PV) (h2 : PHeap), st = impl_EndOf.st0 (.int .i64 (R : Int)) (.int .i64 (C : Int)) q' (.int .i64 (T : Int)) p (.int .i64 (ms.length : Int)) (.int .i64 (k : Int)) h2 ∧ k + m = ms.length ∧ (T = 1 ∨ T = 2) ∧ ((T : Int) = turnAt 1 k) ∧
      playTo (R : Int) (C : Int) (startL (R : Int) (C : Int)) 1 (ms.take k) = some ys ∧ OwnSl h.length h2 q' ys ∧ Keep h.length h h2) ?_ lf ms.length _ hf ⟨0, 1, _, q, h1, rfl, by omega, .inl rfl, rfl, rfl, o1, k1⟩
    rintro n1 m1 st ⟨k, T, ys, q', h2, rfl, hkm, hT, htu, hpl, o2, k2⟩ next
    have hyl : ys.length = R * C := by rw [playTo_length _ _ _ _ _ _ hpl, start_nat, List.length_replicate]
    have hp2 := hp.keep k2
    have heq : playTo (R : Int) (C : Int) (startL (R : Int) (C : Int)) 1 ms = playTo (R : Int) (C : Int) ys (T : Int) (ms.drop k) := by
      have := playTo_append (R : Int) (C : Int) (ms.take k) (ms.drop k) (startL (R : Int) (C : Int)) 1
      rw [List.take_append_drop, hpl, List.length_take, Nat.min_eq_left (by omega)] at this
      rw [htu]; exact this
    rw [impl_EndOf.body0_eq]
    unfold impl_EndOf.body0
    simp only [env_C, env_load, env_bin, env_un, env_indexAddr, env_extract]
    cases m1 with
    | zero =>
      obtain rfl : k = ms.length := by omega
      rw [List.take_length] at hpl
      have hr : recB (R : Int) (C : Int) ms = true := by unfold recB; rw [hb, hpl]; rfl
      have ht0 : recTurn (R : Int) (C : Int) ms = (T : Int) := by unfold recTurn; rw [hr, htu]; rfl
      have hx0 : recEnd (R : Int) (C : Int) ms = ys := by unfold recEnd; rw [hb, hpl]; rfl
      rw [ht0, hx0]
      repeat (first | with_reducible refine wF ?_ | with_reducible refine wrI ?_ | (with_reducible refine wresO (by assumption) ?_) | with_reducible refine wlssF (by omega) ?_ | rw [kLoop_exit] | rw [impl_EndOf.after0_se0_0_1_8_9_21_22_23_24])
      exact W.ret ⟨_, rfl, o2, k2⟩
    | succ m1 =>
      have hk : k < ms.length := by omega
      have hd : ms.drop k = ms[k] :: ms.drop (k + 1) := List.drop_eq_getElem_cons hk
      obtain ⟨q3, h3, e3, o3, k3⟩ := playedOk g lf hlf n (by omega) (R : Int) (C : Int) ms[k] (T : Int) (ht.keep k2) o2.int (by omega) (by omega)
      rw [hd] at heq; simp only [playTo] at heq
      cases hmv : moveL (R : Int) (C : Int) ys ms[k] (T : Int) with
      | false =>
        rw [hmv] at e3
        rw [hmv, if_neg (by decide)] at heq
        obtain ⟨t0, x0⟩ := rec_none (r := (R : Int)) (c := (C : Int)) (ms := ms) (by unfold recB; rw [heq]; simp)
        rw [t0, x0]
        repeat (first | with_reducible refine wT ?_ | with_reducible refine wnF ?_ | with_reducible refine wrI ?_ | with_reducible refine wrN ?_ | with_reducible refine wx0 ?_ | with_reducible refine wx1 ?_ | with_reducible refine wbd (by assumption) ?_ | (refine wat hp2 hk fun a ea => ?_) | with_reducible refine wlssT (by omega) ?_ | rw [kLoop_ret] | rw [impl_EndOf.K0_ret] | rw [impl_EndOf.top_sr_6_7] | dsimp only)
        exact W.ret ⟨_, rfl, OwnSl.nil _ _, k2.trans (k3.mono k2.1)⟩
      | true =>
        rw [hmv] at e3
        rw [hmv, if_pos rfl] at heq
        have ho := exchanged_W g lf n (by omega) h3 hT
        unfold playedL at o3
        rw [hmv, if_pos rfl] at o3
        repeat (first | with_reducible refine wT ?_ | with_reducible refine wF ?_ | with_reducible refine wnT ?_ | with_reducible refine wx0 ?_ | with_reducible refine wx1 ?_ | with_reducible refine wbd (by assumption) ?_ | (refine wat hp2 hk fun a ea => ?_) | with_reducible refine wadd1 (by omega) ?_ | with_reducible refine wlssT (by omega) ?_ | dsimp only)
        refine next _ _ (Nat.lt_succ_self _) ⟨k + 1, 3 - T, _, q3, h3, rfl, by omega, by omega, ?_, ?_, o3.mono k2.1, k2.trans (k3.mono k2.1)⟩
        · rw [← turnAt_succ]
          have : ((3 - T : Nat) : Int) = 3 - turnAt 1 k := by rw [← htu]; omega
          rw [this]; unfold turnAt; split <;> rfl
        · rw [List.take_succ_eq_append_getElem hk, playTo_append, hpl, List.length_take, Nat.min_eq_left (by omega)]
          show playTo (R : Int) (C : Int) ys (turnAt 1 k) [ms[k]] = _
          rw [← htu]
          simp only [playTo]
          rw [hmv, if_pos rfl]
theorem recTurn_ok (r c : Int) (ms : List Int) : (recTurn r c ms = 0) ↔ recB r c ms = false := by
  unfold recTurn
  cases h : recB r c ms with
  | false => simp
  | true =>
    rw [if_pos rfl]
    have := turnAt_player (t := 1) (.inl rfl) ms.length
    constructor
    · intro e; omega
    · intro e; cases e
theorem recordOk_W (hlf : 1000 < lf) (r c : Int) {ms : List Int} {p : PV} {h : PHeap} (ht : TabOk g h) (hp : IntSl .i64 h p ms) (hl : ms.length ≤ 2 ^ 35) (hf : ms.length < lf) (N : Nat) (hN : 42 ≤ N) :
    W (CL g lf N fn_impl_RecordOk [.int .i64 r, .int .i64 c, p] h) fun v h' => v = .bool (recB r c ms) ∧ Keep h.length h h' := by
  obtain ⟨n, rfl⟩ : ∃ n, N = n + 1 := ⟨N - 1, by omega⟩
  rw [impl_RecordOk.call_eq]
  unfold impl_RecordOk.main
  simp only [env_C, env_bin, env_extract]
  refine wcall (endOf_W g lf hlf r c ht hp hl hf n (by omega)) fun v h1 ⟨q, hv, o1, k1⟩ => ?_
  subst hv
  have h0 := recTurn_ok r c ms
  cases hr : recB r c ms with
  | false =>
    have := h0.2 hr
    repeat (first | with_reducible refine wrB ?_ | with_reducible refine wx0 ?_ | with_reducible refine wx1 ?_ | with_reducible refine wneqF (by omega) ?_ | dsimp only)
    exact W.ret ⟨rfl, k1⟩
  | true =>
    have : ¬ recTurn r c ms = 0 := fun e => by rw [h0.1 e] at hr; cases hr
    repeat (first | with_reducible refine wrB ?_ | with_reducible refine wx0 ?_ | with_reducible refine wx1 ?_ | with_reducible refine wneqT (by omega) ?_ | dsimp only)
    exact W.ret ⟨rfl, k1⟩
theorem recordOkOk (hlf : 1000 < lf) : RecordOkOk g lf := fun N hN r c ms p h ht hp hl hf => by
  obtain ⟨_, h', e, rfl, k⟩ := recordOk_W g lf hlf r c ht hp hl hf N (by omega)
  exact ⟨h', e, k⟩

/-! ### texts of records -/
end Go.Proofs.YtpaehbfknlpkbacDoor

/- What the program's functions of chapter 11 compute, on: slips, and the best record. -/
set_option maxRecDepth 20000
namespace Go.Proofs.YtpaehbfknlpkbacDoor
open Go Go.Ip G

theorem wheld1 {Q : PV → PHeap → Prop} {b u : Bool} {x y : Res} (hb : b = u) (hx : W x Q) : W ((wantV (.bool b) u).bind fun v => bif v then x else y) Q := by
  subst hb; simpa [wantV] using hx
theorem wheld0 {Q : PV → PHeap → Prop} {b u : Bool} {x y : Res} (hb : b = !u) (hy : W y Q) : W ((wantV (.bool b) u).bind fun v => bif v then x else y) Q := by
  subst hb; cases u <;> simpa [wantV] using hy

/-- A list that grows, in an object that is none of some others. -/
def LsAt (b : Nat) (ex : List Nat) (h : PHeap) (q : PV) (ys : List Int) : Prop := (q = .nilsl ∧ ys = []) ∨ ∃ i, i ∉ ex ∧ b ≤ i ∧ q = .sl i 0 ys.length ∧ At h i (ys.map (.int .i64))
theorem LsAt.keep {b : Nat} {ex : List Nat} {h h' : PHeap} {q : PV} {ys : List Int} (o : LsAt b ex h q ys) (k : Keep h.length h h') : LsAt b ex h' q ys := by
  rcases o with o | ⟨i, h1, h2, h3, h4⟩
  · exact .inl o
  · exact .inr ⟨i, h1, h2, h3, h4.keep k⟩
theorem LsAt.kb {b j : Nat} {ex : List Nat} {h h' : PHeap} {q : PV} {ys : List Int} (o : LsAt b ex h q ys) (k : KB j h h') (hj : j ∈ ex) : LsAt b ex h' q ys := by
  rcases o with o | ⟨i, h1, h2, h3, h4⟩
  · exact .inl o
  · exact .inr ⟨i, h1, h2, h3, h4.kb k fun e => h1 (e ▸ hj)⟩
theorem LsAt.more {b j : Nat} {ex : List Nat} {h h1 h2 : PHeap} {q : PV} {ys : List Int} (o : LsAt b ex h q ys) (k : Keep h.length h h1) (k2 : KB j h1 h2) (hj : h.length ≤ j) : LsAt b (j :: ex) h2 q ys := by
  rcases o with o | ⟨i, a1, a2, a3, a4⟩
  · exact .inl o
  · have hi := a4.lt
    have hne : i ≠ j := by omega
    exact .inr ⟨i, by simp [hne, a1], a2, a3, (a4.keep k).kb k2 hne⟩
theorem LsAt.less {b j : Nat} {ex : List Nat} {h : PHeap} {q : PV} {ys : List Int} (o : LsAt b (j :: ex) h q ys) : LsAt b ex h q ys := by
  rcases o with o | ⟨i, a1, a2⟩
  · exact .inl o
  · exact .inr ⟨i, fun hi => a1 (List.mem_cons_of_mem _ hi), a2⟩
theorem LsAt.own {b : Nat} {ex : List Nat} {h : PHeap} {q : PV} {ys : List Int} (o : LsAt b ex h q ys) : OwnSl b h q ys := by
  rcases o with ⟨rfl, rfl⟩ | ⟨i, h1, h2, h3, h4⟩
  · exact OwnSl.nil _ _
  · exact SlAt.own (i := i) (.inr ⟨h3, h4⟩) h2
theorem wapL {Q : PV → PHeap → Prop} {b : Nat} {ex : List Nat} {h : PHeap} {q : PV} {ys : List Int} (o : LsAt b ex h q ys) (hb : b ≤ h.length) (hx : ∀ j ∈ ex, j < h.length) {x : Int} (hl : ys.length + 1 ≤ 2 ^ 36) {F : PV × PHeap → Res}
    (hf : ∀ p' h' i, LsAt b ex h' p' (ys ++ [x]) → KB i h h' → i ∉ ex → b ≤ i → W (F (p', h')) Q) :
    W ((buildSliceP Tryd.prog 23 1 [(0, .int .i64 x)] h).bind fun v => (appendP Tryd.prog 23 23 q v.1 v.2).bind F) Q := by
  have made : ∀ {p' h' j}, SlAt j h' p' (ys ++ [x]) → h.length ≤ j → LsAt b ex h' p' (ys ++ [x]) := fun {p' h' j} sl lj => by
    rcases sl with ⟨_, e⟩ | ⟨e1, e2⟩
    · simp at e
    · exact .inr ⟨j, fun hj => by have := hx j hj; omega, by omega, e1, e2⟩
  rcases o with ⟨rfl, rfl⟩ | ⟨i, h1, h2, rfl, h3⟩
  · exact wapS (i := h.length) (.inl ⟨rfl, rfl⟩) hl fun p' h' j sl k lj => hf p' h' h.length (made sl lj) k (fun hj => by have := hx _ hj; omega) hb
  · exact wapS (i := i) (.inr ⟨rfl, h3⟩) hl fun p' h' j sl k lj => hf p' h' i (made sl lj) k h1 h2
theorem wresL {Q : PV → PHeap → Prop} {b : Nat} {ex : List Nat} {h : PHeap} {q : PV} {ys : List Int} (o : LsAt b ex h q ys) {f : PV → Res} (hf : W (f q) Q) : W ((resV q).bind f) Q := wbd o.own.res hf

variable (g : Nat → PV) (lf n : Nat)

theorem smallOk_N (r c : Int) (N : Nat) (hN : 3 ≤ N) (h : PHeap) : CL g lf N fn_impl_smallOk [.int .i64 r, .int .i64 c] h = some (.bool (boardB r c && decide (r * c ≤ 6)), h) := by
  obtain ⟨n, rfl⟩ : ∃ n, N = n + 1 := ⟨N - 1, by omega⟩
  have e1 := boardOk_N g lf n (by omega) h r c
  suffices this : W (CL g lf (n + 1) fn_impl_smallOk [.int .i64 r, .int .i64 c] h) fun v h' => v = .bool (boardB r c && decide (r * c ≤ 6)) ∧ h' = h by
    obtain ⟨_, _, e, rfl, rfl⟩ := this; exact e
  rw [impl_smallOk.call_eq]
  unfold impl_smallOk.main
  simp only [env_C, env_pick, env_bin]
  cases hb : boardB r c with
  | false =>
    rw [hb] at e1
    repeat (first | with_reducible refine wg0 rfl ?_ | with_reducible refine wpF ?_ | with_reducible refine wsm ?_ | with_reducible refine wrB ?_ | with_reducible refine wbd (by assumption) ?_ | dsimp only)
    exact W.ret ⟨rfl, rfl⟩
  | true =>
    rw [hb] at e1
    obtain ⟨R, C, rfl, rfl, hB⟩ := boardB_nat hb
    obtain ⟨b1, b2, b3, b4, b9⟩ := id hB
    rw [Bool.true_and, ← Int.natCast_mul]
    by_cases h6 : R * C ≤ 6
    · rw [decide_eq_true (show ((R * C : Nat) : Int) ≤ 6 by omega)]
      repeat (first | with_reducible refine wg1 rfl ?_ | with_reducible refine wpT ?_ | with_reducible refine wpv ?_ | with_reducible refine wsm ?_ | with_reducible refine wrB ?_ | with_reducible refine wbd (by assumption) ?_ | with_reducible refine wmulN (by omega) ?_ | with_reducible refine wleqT (by omega) ?_ | dsimp only)
      exact W.ret ⟨rfl, rfl⟩
    · rw [decide_eq_false (show ¬ ((R * C : Nat) : Int) ≤ 6 by omega)]
      repeat (first | with_reducible refine wg1 rfl ?_ | with_reducible refine wpT ?_ | with_reducible refine wpv ?_ | with_reducible refine wsm ?_ | with_reducible refine wrB ?_ | with_reducible refine wbd (by assumption) ?_ | with_reducible refine wmulN (by omega) ?_ | with_reducible refine wleqF (by omega) ?_ | dsimp only)
      exact W.ret ⟨rfl, rfl⟩

set_option maxHeartbeats 2000000 in
theorem slips_W (hbig : Big g) (hlf : 1000 < lf) (r c : Int) {ms : List Int} {p : PV} {h : PHeap} (ht : TabOk g h) (hp : IntSl .i64 h p ms) (hl : ms.length ≤ 2 ^ 35) (hf : ms.length < lf) (N : Nat) (hN : 43 ≤ N) :
    W (CL g lf N fn_impl_SlipsOf [.int .i64 r, .int .i64 c, p] h) fun q h' => OwnSl h.length h' q (slipsL r c ms) ∧ Keep h.length h h' := by
  obtain ⟨n, rfl⟩ : ∃ n, N = n + 1 := ⟨N - 1, by omega⟩
  have e1 := smallOk_N g lf r c n (by omega) h
  rw [impl_SlipsOf.call_eq]
  unfold impl_SlipsOf.main
  simp only [env_C, env_lf, env_pick, env_alloc, env_store, env_un, env_len]
  cases hsm : (boardB r c && decide (r * c ≤ 6)) with
  | false =>
    rw [hsm] at e1
    have he : slipsL r c ms = [] := by
      unfold slipsL
      rw [if_neg]
      rintro ⟨h1, h2⟩
      rw [rec_board h1, decide_eq_true h2] at hsm
      cases hsm
    rw [he]
    repeat (first | with_reducible refine wT ?_ | with_reducible refine wg0 rfl ?_ | with_reducible refine wpT ?_ | with_reducible refine wnF ?_ | with_reducible refine wsm ?_ | with_reducible refine wrN ?_ | with_reducible refine wbd (by assumption) ?_ | dsimp only)
    exact W.ret ⟨OwnSl.nil _ _, Keep.refl _ _⟩
  | true =>
    rw [hsm] at e1
    rw [Bool.and_eq_true, decide_eq_true_iff] at hsm
    obtain ⟨hbb, h6⟩ := hsm
    repeat (first | with_reducible refine wg1 rfl ?_ | with_reducible refine wnT ?_ | with_reducible refine wsm ?_ | with_reducible refine wbd (by assumption) ?_ | dsimp only)
    refine wcall (recordOk_W g lf hlf r c ht hp hl hf n (by omega)) fun v h1 ⟨hv, k1⟩ => ?_
    subst hv
    cases hr : recB r c ms with
    | false =>
      have he : slipsL r c ms = [] := by unfold slipsL; rw [hr, if_neg (by simp)]
      rw [he]
      repeat (first | with_reducible refine wT ?_ | with_reducible refine wg1 rfl ?_ | with_reducible refine wpF ?_ | with_reducible refine wnF ?_ | with_reducible refine wpv ?_ | with_reducible refine wrN ?_ | dsimp only)
      exact W.ret ⟨OwnSl.nil _ _, k1⟩
    | true =>
      have he : slipsL r c ms = slipsF r c (startL r c) 1 0 ms := by unfold slipsL; rw [if_pos ⟨hr, h6⟩]
      rw [he]
      obtain ⟨R, C, rfl, rfl, hB⟩ := boardB_nat hbb
      obtain ⟨b1, b2, b3, b4, b9⟩ := id hB
      have hml := (rec_length hr).2
      repeat (first | with_reducible refine wF ?_ | with_reducible refine wg1 rfl ?_ | with_reducible refine wpF ?_ | with_reducible refine wnT ?_ | with_reducible refine wpv ?_ | dsimp only)
      refine wcall (newSearch_W g lf hB n (by omega) hlf (ht.keep k1).1) fun v h2 ⟨s, m, hv, hs2, k2, l1, l2⟩ => ?_
      subst hv
      have kk2 := k1.trans (k2.mono k1.1)
      obtain ⟨q3, h3, e3, o3, k3⟩ := freeBoard_W g lf n (by omega) h2 (R : Int) (C : Int)
      rw [hbb, if_pos rfl, show freeL (R : Int).toNat (C : Int).toNat = startL (R : Int) (C : Int) from (start_nat R C).symm] at o3
      have kk3 := kk2.trans (k3.mono kk2.1)
      have hs3 := hs2.keep k3
      have hsl : (startL (R : Int) (C : Int)).length = R * C := by rw [start_nat, List.length_replicate]
      repeat (first | with_reducible refine wbd (by assumption) ?_ | dsimp only)
      refine wcall (standingOf_W g lf o3.int (by omega) 1 n (by omega) hlf) fun v h4 ⟨hv, k4⟩ => ?_
      subst hv
      have kk4 := kk3.trans (k4.mono kk3.1)
      have hs4 := hs3.keep k4
      repeat (first | dsimp only)
      refine walS fun h5 id o5 k5 l5 => ?_
      dsimp only at k5 l5 ⊢
      refine wstS o5 fun h6 o6 k6 => ?_
      have hs5 := hs4.keep k5
      have d1 : s ≠ id := by have := hs4.1.lt; omega
      have d2 : m ≠ id := by have := hs4.lt; omega
      have hs6 := hs5.kbo k6 d1 d2
      have d3 : h.length ≤ id := Nat.le_trans kk4.1 l5
      have l1' : h.length ≤ s := Nat.le_trans k1.1 l1
      have l2' : h.length ≤ m := Nat.le_trans k1.1 l2
      have kk6 := (kk4.trans (k5.mono kk4.1)).kbs (Nat.le_refl _) k6 d3
      have hlen := hp.len'
      have hb0 : posB (R : Int) (C : Int) (startL (R : Int) (C : Int)) = true := start_pos hbb
      obtain ⟨R', C', hS0⟩ := sides_of hb0
      have hS0c := hS0
      obtain ⟨eR, eC, _⟩ := hS0c
      obtain rfl : R = R' := by omega
      obtain rfl : C = C' := by omega
      have hpl0 : (playTo (R : Int) (C : Int) (startL (R : Int) (C : Int)) 1 ms).isSome = true := by unfold recB at hr; rw [Bool.and_eq_true] at hr; exact hr.2
      generalize startL (R : Int) (C : Int) = x0 at *
      repeat (first | with_reducible refine wbd (by assumption) ?_)
      refine loopW (fun m' st => ∃ (k U : Nat) (zs ys : List Int) (q : PV) (h7 : PHeap), st = impl_SlipsOf.st0 (.ptr s 0) (.ptr id 0) q p (.int .i64 (ms.length : Int)) (.int .i64 (k : Int)) h7 ∧ k + m' = ms.length ∧ posB (R : Int) (C : Int) zs = true ∧ Sides (R : Int) (C : Int) R C zs ∧ (U = 1 ∨ U = 2) ∧
        (playTo (R : Int) (C : Int) zs (U : Int) (ms.drop k)).isSome = true ∧ At h7 id (stC (setL zs 0) (setL zs 1) (setL zs 2) U) ∧ Sch R C h7 s m ∧ LsAt h.length [s, m, id] h7 q ys ∧ ys.length ≤ k ∧ ys ++ slipsF (R : Int) (C : Int) zs (U : Int) k (ms.drop k) = slipsF (R : Int) (C : Int) x0 1 0 ms ∧ Keep h.length h h7) ?_ lf ms.length _ hf
        ⟨0, 1, x0, [], .nilsl, h6, rfl, by omega, hb0, hS0, .inl rfl, hpl0, o6, hs6, .inl ⟨rfl, rfl⟩, by simp, rfl, kk6⟩
      clear hS0 hb0 hpl0 o6 hs6 kk6 o5 k5 k6 hs5 hs4 hs3 hs2
      rintro n1 m1 st ⟨k, U, zs, ys, q, h7, rfl, hkm, hb, hS, hU, hpl, o7, hs7, ls7, hyl, hfl, kk7⟩ next
      rw [impl_SlipsOf.body0_eq]
      unfold impl_SlipsOf.body0
      simp only [env_C, env_pick, env_alloc, env_buildSlice, env_load, env_store, env_bin, env_fieldAddr, env_indexAddr, env_append]
      cases m1 with
      | zero =>
        obtain rfl : k = ms.length := by omega
        rw [List.drop_length] at hfl
        have hys : ys = slipsF (R : Int) (C : Int) x0 1 0 ms := by rw [← hfl, slipsF, List.append_nil]
        repeat (first | with_reducible refine wF ?_ | (with_reducible refine wresL ls7 ?_) | with_reducible refine wlssF (by omega) ?_ | rw [kLoop_exit] | rw [impl_SlipsOf.after0_se0_7_8_9_31_32_33_34])
        exact W.ret ⟨hys ▸ ls7.own, kk7⟩
      | succ m1 =>
        have hk : k < ms.length := by omega
        have hd : ms.drop k = ms[k] :: ms.drop (k + 1) := List.drop_eq_getElem_cons hk
        rw [hd] at hpl hfl
        simp only [playTo] at hpl
        cases hmv : moveL (R : Int) (C : Int) zs ms[k] (U : Int) with
        | false => rw [hmv, if_neg (by decide)] at hpl; cases hpl
        | true =>
        rw [hmv, if_pos rfl] at hpl
        obtain ⟨K, hK, hK0, hKl⟩ := move_cell hmv
        have e3 : (3 : Int) - (U : Int) = ((3 - U : Nat) : Int) := by omega
        have hU' : 3 - U = 1 ∨ 3 - U = 2 := by omega
        rw [slips_step] at hfl
        rw [hK, Int.toNat_natCast, e3] at hpl hfl
        have hzl : zs.length = R * C := hS.2.2.2.2.2.2.2.1
        have hf9 := set_lt9 hS 0
        have ha9 := set_lt9 hS 1
        have hb9 := set_lt9 hS 2
        have hb2 := pos_set hb hU K
        have hS2 := sides_set hb hS (k := K) hU
        obtain ⟨q1, q2⟩ := set_putA hU hK0
        have q0 := (set_more hS hU hK0).2.1
        have w1 := winL_eq hb hU
        have w2 := winL_eq hb2 hU'
        rw [w1, w2] at hfl
        refine wlssT (by omega) ?_
        refine wT ?_
        refine wat (hp.keep kk7) hk fun a ea => ?_
        refine wbd ea ?_
        rw [hK]
        refine wbd (ldS o7) ?_
        refine wcall (after_W g lf hf9 ha9 hb9 (by omega) hU n (by omega) h7) fun v h8 ⟨hv, k8⟩ => ?_
        subst hv
        have kk8 := kk7.trans (k8.mono kk7.1)
        refine walS fun h9 id2 o9 k9 l9 => ?_
        dsimp only at k9 l9 ⊢
        refine wstS o9 fun h10 n10 k10 => ?_
        have k79 : Keep h7.length h7 h9 := k8.trans (k9.mono k8.1)
        have l79 : h7.length ≤ id2 := Nat.le_trans k8.1 l9
        have f1 : id ≠ id2 := by have := o7.lt; omega
        have f2 : s ≠ id2 := by have := hs7.1.lt; omega
        have f3 : m ≠ id2 := by have := hs7.lt; omega
        have ls10 := ls7.more k79 k10 l79
        have o10 := (o7.keep k79).kb k10 f1
        have hs10 := (hs7.keep k79).kbo k10 f2 f3
        have kk10 := (kk8.trans (k9.mono kk8.1)).kbs (Nat.le_refl _) k10 (Nat.le_trans kk7.1 l79)
        rw [← q0, ← q1, ← q2] at n10
        have ht10 := ht.2.keep kk10
        repeat (first | (with_reducible refine wbd (fSt1 _) ?_) | (with_reducible refine wbd (ld1 (by assumption) rfl) ?_) | (with_reducible refine wbd (ldS (by assumption)) ?_))
        refine wcall (sWinner_W g lf hB hbig hlf 9 _ _ _ _ n h10 (Nat.le_trans (fr_le _ _ _) b9) (stands_of hS hU) (by omega) hs10 ht10) fun v h11 ⟨hv, hs11, k11⟩ => ?_
        subst hv
        have o11 := o10.kb k11 (hs10.ne o10)
        have n11 := n10.kb k11 (hs10.ne n10)
        have ls11 := ls10.kb k11 (by simp)
        have kk11 := kk10.kbs (Nat.le_refl _) k11 l2'
        have ht11 := ht.2.keep kk11
        generalize hW1 : winN R C (setL zs 1) (setL zs 2) U = W1 at hfl ⊢
        generalize hW2 : winN R C (setL (zs.set K (U : Int)) 1) (setL (zs.set K (U : Int)) 2) (3 - U) = W2 at hfl
        repeat (first | with_reducible refine wck plain_int ?_ | (with_reducible refine wbd (ld1 (by assumption) rfl) ?_) | (with_reducible refine wbd (ldS (by assumption)) ?_) | (with_reducible refine wck plainS ?_) | dsimp only)
        refine weql (fun ew => ?_) (fun ew => ?_)
        · repeat (first | with_reducible refine wg1 rfl ?_ | with_reducible refine wpv ?_ | with_reducible refine wsm ?_ | (with_reducible refine wbd (fSt1 _) ?_) | (with_reducible refine wbd (ld1 (by assumption) rfl) ?_) | (with_reducible refine wbd (ldS (by assumption)) ?_) | (with_reducible refine wheld1 rfl ?_) | dsimp only)
          refine wcall (sWinner_W g lf hB hbig hlf 9 _ _ _ _ n h11 (Nat.le_trans (fr_le _ _ _) b9) (stands_of hS2 hU') (by omega) hs11 ht11) fun v h12 ⟨hv, hs12, k12⟩ => ?_
          subst hv
          rw [hW2]
          have o12 := o11.kb k12 (hs11.ne o11)
          have n12 := n11.kb k12 (hs11.ne n11)
          have ls12 := ls11.kb k12 (by simp)
          have kk12 := kk11.kbs (Nat.le_refl _) k12 l2'
          repeat (first | with_reducible refine wg1 rfl ?_ | with_reducible refine wpv ?_ | with_reducible refine wck plain_int ?_ | (with_reducible refine wbd (ld1 (by assumption) rfl) ?_) | (with_reducible refine wbd (ldS (by assumption)) ?_) | (with_reducible refine wck plainS ?_) | dsimp only)
          refine wneq (fun ev => ?_) (fun ev => ?_)
          · rw [if_pos ⟨ew, ev⟩] at hfl
            repeat (first | with_reducible refine wT ?_ | with_reducible refine wpT ?_)
            refine wapL ls12 kk12.1 (fun j hj => ?_) (by omega) fun q' h13 i ls13 k13 hi hbi => ?_
            · simp only [List.mem_cons, List.not_mem_nil, or_false] at hj
              rcases hj with rfl | rfl | rfl | rfl
              · exact n12.lt
              · exact hs12.1.lt
              · exact hs12.lt
              · exact o12.lt
            · simp only [List.mem_cons, List.not_mem_nil, or_false, not_or] at hi
              obtain ⟨g1, g2, g3, g4⟩ := hi
              have o13 := o12.kb k13 (Ne.symm g4)
              have n13 := n12.kb k13 (Ne.symm g1)
              have hs13 := hs12.kbo k13 (Ne.symm g2) (Ne.symm g3)
              have kk13 := kk12.kbs (Nat.le_refl _) k13 hbi
              refine wbd (ldS n13) ?_
              refine wstS o13 fun h14 o14 k14 => ?_
              repeat (first | with_reducible refine wadd1 (by omega) ?_ | dsimp only)
              refine next _ _ (Nat.lt_succ_self _) ⟨k + 1, 3 - U, zs.set K (U : Int), ys ++ [(k : Int)], q', h14, rfl, by omega, hb2, hS2, hU', hpl, o14, hs13.kbo k14 d1 d2, ls13.less.kb k14 (by simp), by rw [List.length_append]; simp; omega, ?_, kk13.kbs (Nat.le_refl _) k14 d3⟩
              rw [List.append_assoc]; exact hfl
          · rw [if_neg (fun a => a.2 ev)] at hfl
            repeat (first | with_reducible refine wF ?_ | with_reducible refine wpT ?_ | (with_reducible refine wbd (ldS (by assumption)) ?_))
            refine wstS o12 fun h14 o14 k14 => ?_
            repeat (first | with_reducible refine wadd1 (by omega) ?_)
            refine next _ _ (Nat.lt_succ_self _) ⟨k + 1, 3 - U, zs.set K (U : Int), ys, q, h14, rfl, by omega, hb2, hS2, hU', hpl, o14, hs12.kbo k14 d1 d2, ls12.less.kb k14 (by simp), by omega, hfl, kk12.kbs (Nat.le_refl _) k14 d3⟩
        · rw [if_neg (fun a => ew a.1)] at hfl
          repeat (first | with_reducible refine wF ?_ | with_reducible refine wg0 rfl ?_ | with_reducible refine wpF ?_ | with_reducible refine wsm ?_ | with_reducible refine wck plain_int ?_ | (with_reducible refine wbd (ld1 (by assumption) rfl) ?_) | (with_reducible refine wbd (ldS (by assumption)) ?_) | (with_reducible refine wck plainS ?_) | (with_reducible refine wheld0 rfl ?_) | dsimp only)
          refine wstS o11 fun h14 o14 k14 => ?_
          repeat (first | with_reducible refine wadd1 (by omega) ?_)
          refine next _ _ (Nat.lt_succ_self _) ⟨k + 1, 3 - U, zs.set K (U : Int), ys, q, h14, rfl, by omega, hb2, hS2, hU', hpl, o14, hs11.kbo k14 d1 d2, ls11.less.kb k14 (by simp), by omega, hfl, kk11.kbs (Nat.le_refl _) k14 d3⟩
theorem slipsOk (hbig : Big g) (hlf : 1000 < lf) : SlipsOk g lf := fun N hN r c ms p h ht hp hl hf => by
  obtain ⟨q, h', e, o, k⟩ := slips_W g lf hbig hlf r c ht hp hl hf N (by omega)
  exact ⟨q, h', e, o, k⟩

end Go.Proofs.YtpaehbfknlpkbacDoor

