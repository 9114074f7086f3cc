/- Texts of this seat, in their order, put together by program. -/
import Derived.Test.YtmhflbomploidaaDoorL10
set_option linter.unusedSimpArgs false
set_option linter.unusedVariables false
set_option linter.unusedSectionVars false
/- The library's stable sort: what it is given, compared by a function of the program, comes in order, and none is lost. -/
set_option maxRecDepth 20000
namespace Go.Proofs.YtmhflbomploidaaDoor
open Go Go.Ip G

section
variable {Q : PV → PHeap → Prop}
theorem wfn {F : FuncId} {X : FuncId → Res} {K : PV × PHeap → Res} (h : W ((X F).bind K) Q) : W (((fnP (.fn F)).bind X).bind K) Q := h
theorem wsubN {x y : Nat} {P : Program} {t : TypeId} {f : PV → Res} (h : y ≤ x) (h2 : x < 4611686018427387904) (hf : W (f (.int .i64 ((x - y : Nat) : Int))) Q) : W ((binP P .sub t (.int .i64 (x : Int)) (.int .i64 (y : Int))).bind f) Q :=
  wbd (by rw [bin_sub, wr (by omega), show (x : Int) - (y : Int) = ((x - y : Nat) : Int) by omega]) hf
/-- A load that is wanted, or not, ahead of all that follows. -/
theorem wh1 {b u : Bool} {x y : Res} (hb : b = u) (hx : W x Q) : W ((wantV (.bool b) u).bind fun v => bif v then x else y) Q := by
  subst hb; simpa using hx
theorem wh0 {b u : Bool} {x y : Res} (hb : b = !u) (hy : W y Q) : W ((wantV (.bool b) u).bind fun v => bif v then x else y) Q := by
  subst hb; cases u <;> simpa using hy
theorem conv_iu (x : Int) : convP Tryd.prog 3 82 (.int .i64 x) = some (.int .u64 (IntKind.u64.wrap x)) := by kernel_rfl
theorem conv_ui (x : Int) : convP Tryd.prog 82 3 (.int .u64 x) = some (.int .i64 (IntKind.i64.wrap x)) := by kernel_rfl
/-- Half of a number, by way of one without a sign. -/
theorem whalf {x : Nat} {f : PV → Res} (hx : x < 4611686018427387904) (hf : W (f (.int .i64 ((x / 2 : Nat) : Int))) Q) :
    W ((convP Tryd.prog 3 82 (.int .i64 (x : Int))).bind fun v => (binP Tryd.prog .shr 82 v (.int .u64 1)).bind fun w => (convP Tryd.prog 82 3 w).bind f) Q := by
  have e1 : IntKind.u64.wrap (x : Int) = (x : Int) := by
    show (x : Int) % 18446744073709551616 = (x : Int)
    omega
  have e2 : binP Tryd.prog .shr 82 (.int .u64 (x : Int)) (.int .u64 1) = some (.int .u64 ((x / 2 : Nat) : Int)) := by
    show shI .shr .u64 (x : Int) 1 = _
    show some (PV.int .u64 ((x : Int).fdiv (2 ^ (min (1 : Int).toNat 64)))) = _
    congr 2
    rw [show ((2 : Int) ^ (min (1 : Int).toNat 64)) = 2 from rfl, Int.fdiv_eq_ediv_of_nonneg _ (by decide)]
    omega
  refine wbd (conv_iu _) ?_
  rw [e1]
  refine wbd e2 (wbd (conv_ui _) ?_)
  rw [wr (by omega)]
  exact hf
/-- Two comparisons, the second one only if the first one holds. -/
theorem wandlt {P : Program} {t : TypeId} {x y z w : Int} {h : PHeap} {A B : PV × PHeap → Res} (hT : x < y ∧ z < w → W (A (.bool true, h)) Q) (hF : ∀ u, ¬ (x < y ∧ z < w) → W (B (u, h)) Q) :
    W ((binP P .lss t (.int .i64 x) (.int .i64 y)).bind fun v0 => (wantV v0 true).bind fun v1 => (bif v1 then some (PV.int .i64 z, h) else some (.tup [], h)).bind fun v2 =>
      (wantV v0 true).bind fun v3 => (bif v3 then some (PV.int .i64 w, v2.2) else some (.tup [], v2.2)).bind fun v4 =>
      (wantV v0 true).bind fun v5 => (bif v5 then pv v4.2 (binP P .lss t v2.1 v4.1) else some (.tup [], v4.2)).bind fun v6 =>
      (pickP v0 v6.1 (.bool false)).bind fun v7 => condP v7 (A v6) (B v6)) Q := by
  by_cases h1 : x < y
  · refine wlssT h1 ?_
    by_cases h2 : z < w
    · simp only [want_bool, Option.bind_some, beq_self_eq_true, cond_true, bin_lss, decide_eq_true h2, pv_some', pick_bool, cond_bool]
      exact hT ⟨h1, h2⟩
    · simp only [want_bool, Option.bind_some, beq_self_eq_true, cond_true, bin_lss, decide_eq_false h2, pv_some', pick_bool, cond_bool, cond_false]
      exact hF _ (fun hh => h2 hh.2)
  · refine wlssF h1 ?_
    simp only [want_bool, Option.bind_some, show ((false == true) = false) from rfl, cond_false, pick_bool, cond_bool]
    exact hF _ (fun hh => h1 hh.1)
end

/-- Two elements change places: the first one is written first, or the second one. -/
theorem own_swap {n0 : Nat} {h : PHeap} {p : PV} {A C B : List Int} {x y : Int} (s : OwnSl n0 h p (A ++ x :: (B ++ y :: C))) {i j : Nat} (hi : i = A.length) (hj : j = A.length + 1 + B.length) :
    ∃ ai aj h1 h2 h3 h4, indexAddrP Tryd.prog 23 p (.int .i64 (i : Int)) = some ai ∧ indexAddrP Tryd.prog 23 p (.int .i64 (j : Int)) = some aj ∧ loadP Tryd.prog 3 ai h = some (.int .i64 x) ∧ loadP Tryd.prog 3 aj h = some (.int .i64 y) ∧
      storeP Tryd.prog 3 ai (.int .i64 y) h = some h1 ∧ storeP Tryd.prog 3 aj (.int .i64 x) h1 = some h2 ∧ OwnSl n0 h2 p (A ++ y :: (B ++ x :: C)) ∧ Keep n0 h h2 ∧ h2.length = h.length ∧
      storeP Tryd.prog 3 aj (.int .i64 x) h = some h3 ∧ storeP Tryd.prog 3 ai (.int .i64 y) h3 = some h4 ∧ OwnSl n0 h4 p (A ++ y :: (B ++ x :: C)) ∧ Keep n0 h h4 ∧ h4.length = h.length := by
  have hil : i < (A ++ x :: (B ++ y :: C)).length := by simp only [List.length_append, List.length_cons]; omega
  have hjl : j < (A ++ x :: (B ++ y :: C)).length := by simp only [List.length_append, List.length_cons]; omega
  obtain ⟨ai, ei, li⟩ := s.int.at' hil
  obtain ⟨aj, ej, lj⟩ := s.int.at' hjl
  rw [get_at _ _ _ _ hi] at li
  rw [get_at2 _ _ _ _ _ _ hj] at lj
  obtain ⟨b1, h1, f1, g1, o1, k1, l1⟩ := s.store hil y
  obtain ⟨b2, h2, f2, g2, o2, k2, l2⟩ := o1.store (i := j) (by rw [List.length_set]; exact hjl) x
  obtain ⟨b3, h3, f3, g3, o3, k3, l3⟩ := s.store hjl x
  obtain ⟨b4, h4, f4, g4, o4, k4, l4⟩ := o3.store (i := i) (by rw [List.length_set]; exact hil) y
  have q1 := Option.some.inj (f1.symm.trans ei)
  have q2 := Option.some.inj (f2.symm.trans ej)
  have q3 := Option.some.inj (f3.symm.trans ej)
  have q4 := Option.some.inj (f4.symm.trans ei)
  subst q1 q2 q3 q4
  rw [swap_set A x B y C i j hi hj] at o2
  rw [swap_set' A x B y C i j hi hj] at o4
  exact ⟨_, _, h1, h2, h3, h4, ei, ej, li, lj, g1, g2, o2, k1.trans k2, l2.trans l1, g3, g4, o4, k3.trans k4, l4.trans l3⟩
theorem own_read {n0 : Nat} {h : PHeap} {p : PV} {A C : List Int} {x : Int} (s : OwnSl n0 h p (A ++ x :: C)) {i : Nat} (hi : i = A.length) :
    ∃ a, indexAddrP Tryd.prog 23 p (.int .i64 (i : Int)) = some a ∧ loadP Tryd.prog 3 a h = some (.int .i64 x) := by
  obtain ⟨a, e, l⟩ := s.int.at' (i := i) (by simp only [List.length_append, List.length_cons]; omega)
  rw [get_at _ _ _ _ hi] at l
  exact ⟨a, e, l⟩

variable (g : Nat → PV) (lf : Nat)

/-! ### parts that change places -/
theorem swapRange_W (hlf : 1000 < lf) (x4 : PV) {n0 : Nat} {h : PHeap} {p : PV} {U X M Y V : List Int} {a b k : Nat} (s : OwnSl n0 h p (U ++ (X ++ (M ++ (Y ++ V))))) (hl : (U ++ (X ++ (M ++ (Y ++ V)))).length ≤ 512)
    (ha : a = U.length) (hb : b = U.length + X.length + M.length) (hk : k = X.length) (hY : Y.length = k) (N : Nat) (hN : 1 ≤ N) :
    W (CL g lf N fn_slices_swapRangeCmpFunc_int_ [p, .int .i64 (a : Int), .int .i64 (b : Int), .int .i64 (k : Int), x4] h) fun _ h' => OwnSl n0 h' p (U ++ (Y ++ (M ++ (X ++ V)))) ∧ Keep n0 h h' ∧ h'.length = h.length := by
  obtain ⟨n, rfl⟩ : ∃ n, N = n + 1 := ⟨N - 1, by omega⟩
  simp only [List.length_append] at hl
  rw [slices_swapRangeCmpFunc_int_.call_eq]
  unfold slices_swapRangeCmpFunc_int_.main
  simp only [env_lf]
  refine loopW (fun m st => ∃ (X1 X2 Y1 Y2 : List Int) (i : Nat) (h2 : PHeap), st = slices_swapRangeCmpFunc_int_.st0 p (.int .i64 (a : Int)) (.int .i64 (b : Int)) (.int .i64 (k : Int)) (.int .i64 (i : Int)) h2 ∧ m = X2.length ∧ X = X1 ++ X2 ∧ Y = Y1 ++ Y2 ∧ i = X1.length ∧ i = Y1.length ∧
      OwnSl n0 h2 p (U ++ (Y1 ++ (X2 ++ (M ++ (X1 ++ (Y2 ++ V)))))) ∧ Keep n0 h h2 ∧ h2.length = h.length) ?_ lf X.length _ (by omega)
    ⟨[], X, [], Y, 0, h, rfl, rfl, rfl, rfl, rfl, rfl, s, Keep.refl _ _, rfl⟩
  rintro n1 m st ⟨X1, X2, Y1, Y2, i, h2, rfl, rfl, eX, eY, i1, i2, o, k2, l2⟩ next
  rw [slices_swapRangeCmpFunc_int_.body0_eq]
  unfold slices_swapRangeCmpFunc_int_.body0
  simp only [env_load, env_store, env_bin, env_indexAddr]
  have lX : X.length = X1.length + X2.length := by rw [eX, List.length_append]
  have lY : Y.length = Y1.length + Y2.length := by rw [eY, List.length_append]
  cases X2 with
  | nil =>
    have hY2 : Y2 = [] := List.eq_nil_of_length_eq_zero (by rw [List.length_nil] at lX; omega)
    subst hY2
    rw [List.append_nil] at eX eY
    subst eX eY
    rw [List.length_nil] at lX
    repeat (first | with_reducible refine wF ?_ | with_reducible refine wlssF (by omega) ?_ | rw [kLoop_exit] | rw [slices_swapRangeCmpFunc_int_.after0_se0_0_1_2_3_10_13])
    exact W.ret ⟨by simpa using o, k2, l2⟩
  | cons x X2 =>
    cases Y2 with
    | nil => rw [List.length_cons] at lX; rw [List.length_nil] at lY; omega
    | cons y Y2 =>
      rw [List.length_cons] at lX lY
      have e : U ++ (Y1 ++ (x :: X2 ++ (M ++ (X1 ++ (y :: Y2 ++ V))))) = (U ++ Y1) ++ x :: ((X2 ++ (M ++ X1)) ++ y :: (Y2 ++ V)) := by simp [List.append_assoc]
      rw [e] at o
      obtain ⟨ai, aj, h3, h4, _, _, ei, ej, li, lj, s3, s4, o4, k4, l4, _⟩ := own_swap o (i := a + i) (j := b + i) (by rw [List.length_append]; omega) (by simp only [List.length_append]; omega)
      repeat (first | with_reducible refine wT ?_ | with_reducible refine wbd (by assumption) ?_ | with_reducible refine wadd1 (by omega) ?_ | with_reducible refine waddN (by omega) ?_ | with_reducible refine wlssT (by omega) ?_)
      refine next _ _ (by rw [List.length_cons]; omega) ⟨X1 ++ [x], X2, Y1 ++ [y], Y2, i + 1, h4, rfl, rfl, by rw [eX, List.append_assoc]; rfl, by rw [eY, List.append_assoc]; rfl, by rw [List.length_append, i1]; rfl, by rw [List.length_append, i2]; rfl, ?_, k2.trans k4, l4.trans l2⟩
      have e2 : U ++ (Y1 ++ [y] ++ (X2 ++ (M ++ (X1 ++ [x] ++ (Y2 ++ V))))) = (U ++ Y1) ++ y :: ((X2 ++ (M ++ X1)) ++ x :: (Y2 ++ V)) := by simp [List.append_assoc]
      rw [e2]; exact o4

theorem rotate_W (hlf : 1000 < lf) (x4 : PV) {n0 : Nat} {h : PHeap} {p : PV} {U X Y V : List Int} {a m b : Nat} (s : OwnSl n0 h p (U ++ (X ++ (Y ++ V)))) (hl : (U ++ (X ++ (Y ++ V))).length ≤ 512)
    (ha : a = U.length) (hm : m = a + X.length) (hb : b = m + Y.length) (hX : 0 < X.length) (hY : 0 < Y.length) (N : Nat) (hN : 2 ≤ N) :
    W (CL g lf N fn_slices_rotateCmpFunc_int_ [p, .int .i64 (a : Int), .int .i64 (m : Int), .int .i64 (b : Int), x4] h) fun _ h' => OwnSl n0 h' p (U ++ (Y ++ (X ++ V))) ∧ Keep n0 h h' ∧ h'.length = h.length := by
  obtain ⟨n, rfl⟩ : ∃ n, N = n + 1 := ⟨N - 1, by omega⟩
  have hl0 := hl
  simp only [List.length_append] at hl
  rw [slices_rotateCmpFunc_int_.call_eq]
  unfold slices_rotateCmpFunc_int_.main
  simp only [env_lf, env_bin]
  repeat (first | (with_reducible refine wsubN (by omega) (by omega) ?_))
  refine loopW (fun z st => ∃ (U' X' Y' V' : List Int) (i j : Nat) (h2 : PHeap), st = slices_rotateCmpFunc_int_.st0 p (.int .i64 (m : Int)) x4 (.int .i64 (i : Int)) (.int .i64 (j : Int)) h2 ∧ z = i + j ∧ i = X'.length ∧ j = Y'.length ∧ m = U'.length + X'.length ∧ 0 < i ∧ 0 < j ∧
      U' ++ (Y' ++ (X' ++ V')) = U ++ (Y ++ (X ++ V)) ∧ OwnSl n0 h2 p (U' ++ (X' ++ (Y' ++ V'))) ∧ Keep n0 h h2 ∧ h2.length = h.length) ?_ lf (m - a + (b - m)) _ (by omega)
    ⟨U, X, Y, V, m - a, b - m, h, rfl, rfl, by omega, by omega, by omega, by omega, by omega, rfl, s, Keep.refl _ _, rfl⟩
  rintro n1 z st ⟨U', X', Y', V', i, j, h2, rfl, rfl, hi, hj, hm', hi0, hj0, heq, o, k2, l2⟩ next
  have hlen : U'.length + (Y'.length + (X'.length + V'.length)) = U.length + (Y.length + (X.length + V.length)) := by
    have := congrArg List.length heq
    simpa only [List.length_append] using this
  rw [slices_rotateCmpFunc_int_.body0_eq]
  unfold slices_rotateCmpFunc_int_.body0
  simp only [env_C, env_bin]
  by_cases e : i = j
  · have hsw := swapRange_W g lf hlf x4 (U := U') (X := X') (M := []) (Y := Y') (V := V') (a := m - i) (b := m) (k := i) (by simpa using o) (by simp only [List.length_append, List.length_nil]; omega) (by omega) (by rw [List.length_nil]; omega) hi (by omega) n (by omega)
    repeat (first | with_reducible refine wF ?_ | (with_reducible refine wsubN (by omega) (by omega) ?_) | with_reducible refine wneqF (by omega) ?_ | rw [kLoop_exit] | rw [slices_rotateCmpFunc_int_.after0_se0_0_2_4_10_11_20] | simp only [env_C, env_g, env_lf, env_pick, env_alloc, env_box, env_build, env_buildSlice, env_load, env_store, env_ptr, env_bin, env_un, env_conv, env_make, env_slice, env_fieldAddr, env_field, env_indexAddr, env_index, env_extract, env_len, env_append, env_max, env_min, env_makeMap, env_lookup, env_update])
    refine wcall hsw fun v h3 ⟨o3, k3, l3⟩ => ?_
    repeat (first | dsimp only)
    exact W.ret ⟨by rw [← heq]; simpa using o3, k2.trans k3, l3.trans l2⟩
  · by_cases hgt : j < i
    · obtain ⟨X1, X2, eX, lX⟩ : ∃ X1 X2, X' = X1 ++ X2 ∧ X1.length = j := ⟨X'.take j, X'.drop j, (List.take_append_drop _ _).symm, by rw [List.length_take]; omega⟩
      subst eX
      rw [List.length_append] at hi hm' hlen
      have hsw := swapRange_W g lf hlf x4 (U := U') (X := X1) (M := X2) (Y := Y') (V := V') (a := m - i) (b := m) (k := j) (by rw [← List.append_assoc X1]; exact o) (by simp only [List.length_append]; omega) (by omega) (by omega) lX.symm hj.symm n (by omega)
      repeat (first | with_reducible refine wT ?_ | (with_reducible refine wsubN (by omega) (by omega) ?_) | with_reducible refine wgtrT (by omega) ?_ | with_reducible refine wneqT (by omega) ?_)
      refine wcall hsw fun v h3 ⟨o3, k3, l3⟩ => ?_
      repeat (first | (with_reducible refine wsubN (by omega) (by omega) ?_) | dsimp only)
      refine next _ _ (by omega) ⟨U' ++ Y', X2, X1, V', i - j, j, h3, rfl, rfl, by omega, lX.symm, by rw [List.length_append]; omega, by omega, hj0, by rw [← heq]; simp [List.append_assoc], by rw [List.append_assoc]; exact o3, k2.trans k3, l3.trans l2⟩
    · obtain ⟨Y1, Y2, eY, lY⟩ : ∃ Y1 Y2, Y' = Y1 ++ Y2 ∧ Y2.length = i := ⟨Y'.take (j - i), Y'.drop (j - i), (List.take_append_drop _ _).symm, by rw [List.length_drop]; omega⟩
      subst eY
      rw [List.length_append] at hj hlen
      have hsw := swapRange_W g lf hlf x4 (U := U') (X := X') (M := Y1) (Y := Y2) (V := V') (a := m - i) (b := m + j - i) (k := i) (by rw [← List.append_assoc Y1]; exact o) (by simp only [List.length_append]; omega) (by omega) (by omega) hi lY n (by omega)
      repeat (first | with_reducible refine wT ?_ | with_reducible refine wF ?_ | (with_reducible refine wsubN (by omega) (by omega) ?_) | with_reducible refine waddN (by omega) ?_ | with_reducible refine wgtrF (by omega) ?_ | with_reducible refine wneqT (by omega) ?_)
      refine wcall hsw fun v h3 ⟨o3, k3, l3⟩ => ?_
      repeat (first | (with_reducible refine wsubN (by omega) (by omega) ?_) | dsimp only)
      refine next _ _ (by omega) ⟨U', Y2, Y1, X' ++ V', i, j - i, h3, rfl, rfl, lY.symm, by omega, by omega, hi0, by omega, by rw [← heq]; simp [List.append_assoc], o3, k2.trans k3, l3.trans l2⟩

end Go.Proofs.YtmhflbomploidaaDoor

/- The library's stable sort: insertion into a block, two blocks merged, and blocks of all sizes. -/
set_option maxRecDepth 20000
namespace Go.Proofs.YtmhflbomploidaaDoor
open Go Go.Ip G

section
variable {Q : PV → PHeap → Prop}
theorem wdb1 {x : Nat} {P : Program} {t : TypeId} {f : PV → Res} (h : 2 * x < 4611686018427387904) (hf : W (f (.int .i64 ((2 * x : Nat) : Int))) Q) : W ((binP P .mul t (.int .i64 2) (.int .i64 (x : Int))).bind f) Q :=
  wbd (by rw [bin_mul, wr (by omega), show (2 : Int) * (x : Int) = ((2 * x : Nat) : Int) by omega]) hf
theorem wdb2 {x : Nat} {P : Program} {t : TypeId} {f : PV → Res} (h : 2 * x < 4611686018427387904) (hf : W (f (.int .i64 ((2 * x : Nat) : Int))) Q) : W ((binP P .mul t (.int .i64 (x : Int)) (.int .i64 2)).bind f) Q :=
  wbd (by rw [bin_mul, wr (by omega), show (x : Int) * 2 = ((2 * x : Nat) : Int) by omega]) hf
end
theorem split_at {q : Nat} {l : List Int} (h : q < l.length) : ∃ a y b, l = a ++ y :: b ∧ a.length = q :=
  ⟨l.take q, l[q], l.drop (q + 1), by rw [← List.drop_eq_getElem_cons h, List.take_append_drop], by rw [List.length_take]; omega⟩
theorem last_of {l : List Int} (h : 0 < l.length) : ∃ a z, l = a ++ [z] := by
  obtain ⟨a, y, b, e, la⟩ := split_at (q := l.length - 1) (l := l) (by omega)
  have : b.length = 0 := by have := congrArg List.length e; rw [List.length_append, List.length_cons] at this; omega
  exact ⟨a, y, by rw [e, List.eq_nil_of_length_eq_zero this]⟩

/-- A function that compares by a number, and changes nothing. -/
def CmpOk (g : Nat → PV) (lf : Nat) (f : FuncId) (ok : Int → Prop) (cf : Int → Nat) : Prop := ∀ N, 5 ≤ N → ∀ a b : Int, ok a → ok b → ∀ h, ∃ c : Int, CL g lf N f [.int .i64 a, .int .i64 b] h = some (.int .i64 c, h) ∧ (c < 0 ↔ cf a < cf b)

section
variable (g : Nat → PV) (lf : Nat) {f : FuncId} {ok : Int → Prop} {kf cf : Int → Nat} (hcmp : CmpOk g lf f ok cf) (hlf : 1000 < lf)
include hcmp hlf

theorem insertion_W {n0 : Nat} {h : PHeap} {p : PV} {U A V : List Int} {a b : Nat} (s : OwnSl n0 h p (U ++ (A ++ V))) (hl : (U ++ (A ++ V)).length ≤ 512) (hok : ∀ x ∈ A, ok x) (hc : A.Pairwise (Cp kf cf))
    (ha : a = U.length) (hb : b = a + A.length) (N : Nat) (hN : 6 ≤ N) :
    W (CL g lf N fn_slices_insertionSortCmpFunc_int_ [p, .int .i64 (a : Int), .int .i64 (b : Int), .fn f] h) fun _ h' => ∃ S, S.Perm A ∧ Srt kf S ∧ OwnSl n0 h' p (U ++ (S ++ V)) ∧ Keep n0 h h' ∧ h'.length = h.length := by
  obtain ⟨n, rfl⟩ : ∃ n, N = n + 1 := ⟨N - 1, by omega⟩
  simp only [List.length_append] at hl
  have hinit : ∃ A1 A2 S : List Int, A2.length ≤ A.length ∧ A = A1 ++ A2 ∧ S.Perm A1 ∧ Srt kf S ∧ (a + 1 = a + S.length ∨ (A2 = [] ∧ A.length ≤ 1 ∧ a + 1 = a + 1)) ∧ U ++ (S ++ (A2 ++ V)) = U ++ (A ++ V) := by
    cases A with
    | nil => exact ⟨[], [], [], Nat.le_refl _, rfl, .refl _, .nil, .inr ⟨rfl, by decide, rfl⟩, rfl⟩
    | cons x A => exact ⟨[x], A, [x], by rw [List.length_cons]; omega, rfl, .refl _, Srt.one x, .inl rfl, rfl⟩
  obtain ⟨A1, A2, S, hle, i1, i2, i3, i4, i5⟩ := hinit
  rw [slices_insertionSortCmpFunc_int_.call_eq]
  unfold slices_insertionSortCmpFunc_int_.main
  simp only [env_lf, env_bin]
  repeat (first | with_reducible refine wadd1 (by omega) ?_)
  refine loopW (fun z st => ∃ (A1 A2 S : List Int) (i : Nat) (h2 : PHeap), st = slices_insertionSortCmpFunc_int_.st0 p (.int .i64 (a : Int)) (.int .i64 (b : Int)) (.fn f) (.int .i64 (i : Int)) h2 ∧ z = A2.length ∧ A = A1 ++ A2 ∧ S.Perm A1 ∧ Srt kf S ∧ (i = a + S.length ∨ (A2 = [] ∧ A.length ≤ 1 ∧ i = a + 1)) ∧
      OwnSl n0 h2 p (U ++ (S ++ (A2 ++ V))) ∧ Keep n0 h h2 ∧ h2.length = h.length) ?_ lf A2.length _ (by omega)
    ⟨A1, A2, S, a + 1, h, rfl, rfl, i1, i2, i3, i4, by rw [i5]; exact s, Keep.refl _ _, rfl⟩
  clear hle i1 i2 i3 i4 i5 A1 A2 S
  rintro n1 z st ⟨A1, A2, S, i, h2, rfl, rfl, eA, pS, sS, hi, o, k2, l2⟩ next
  have lA : A.length = A1.length + A2.length := by rw [eA, List.length_append]
  have lS := pS.length_eq
  rw [slices_insertionSortCmpFunc_int_.body0_eq]
  unfold slices_insertionSortCmpFunc_int_.body0
  simp only [env_lf, env_bin]
  cases A2 with
  | nil =>
    rw [List.length_nil] at lA
    have hib : ¬ i < b := by rcases hi with hi | ⟨_, hi, hi2⟩ <;> omega
    rw [List.append_nil] at eA
    subst eA
    repeat (first | with_reducible refine wF ?_ | with_reducible refine wlssF (by omega) ?_ | rw [kLoop_exit] | rw [slices_insertionSortCmpFunc_int_.after0_se0_0_1_2_3_8_14])
    exact W.ret ⟨S, pS, sS, o, k2, l2⟩
  | cons y A2 =>
    rw [List.length_cons] at lA
    have hi' : i = a + S.length := by rcases hi with hi | ⟨hi, _⟩; exact hi; cases hi
    clear hi
    repeat (first | with_reducible refine wT ?_ | with_reducible refine wlssT (by omega) ?_)
    refine loopW (fun z st => ∃ (T1 T2 : List Int) (j : Nat) (h3 : PHeap), st = slices_insertionSortCmpFunc_int_.st1 p (.int .i64 (a : Int)) (.int .i64 (b : Int)) (.fn f) (.int .i64 (i : Int)) (.int .i64 (j : Int)) h3 ∧ z = T1.length ∧ S = T1 ++ T2 ∧ j = a + T1.length ∧ (∀ e ∈ T2, kf y < kf e) ∧
        OwnSl n0 h3 p ((U ++ T1) ++ y :: (T2 ++ (A2 ++ V))) ∧ Keep n0 h h3 ∧ h3.length = h.length) ?_ lf S.length _ (by omega)
      ⟨S, [], i, h2, rfl, rfl, (List.append_nil _).symm, hi', (by intro e he; cases he), by simpa using o, k2, l2⟩
    rintro n2 z2 st2 ⟨T1, T2, j, h3, rfl, rfl, eS, hj, hT2, o3, k3, l3⟩ next2
    have lT : S.length = T1.length + T2.length := by rw [eS, List.length_append]
    have hdone : (∀ e ∈ T1, kf e < kf y) → ∀ h4, OwnSl n0 h4 p ((U ++ T1) ++ y :: (T2 ++ (A2 ++ V))) → ∃ (A1' A2' S' : List Int), A2'.length < (y :: A2).length ∧ A = A1' ++ A2' ∧ S'.Perm A1' ∧ Srt kf S' ∧ (i + 1 = a + S'.length ∨ (A2' = [] ∧ A.length ≤ 1 ∧ i + 1 = a + 1)) ∧ OwnSl n0 h4 p (U ++ (S' ++ (A2' ++ V))) := by
      intro hT1 h4 o4
      subst eS
      refine ⟨A1 ++ [y], A2, T1 ++ y :: T2, by rw [List.length_cons]; omega, by rw [eA, List.append_assoc]; rfl, ?_, ?_, .inl ?_, by simpa using o4⟩
      · exact (List.perm_middle.trans (pS.cons y)).trans (List.perm_append_singleton y A1).symm
      · refine sS.left.app (List.pairwise_cons.2 ⟨hT2, sS.right⟩) fun e he e' he' => ?_
        rcases List.mem_cons.1 he' with rfl | he'
        · exact hT1 e he
        · exact sS.across e he e' he'
      · rw [List.length_append, List.length_cons, hi']; omega
    rw [slices_insertionSortCmpFunc_int_.body1_eq]
    unfold slices_insertionSortCmpFunc_int_.body1
    simp only [env_C, env_pick, env_load, env_store, env_bin, env_indexAddr]
    rcases Nat.eq_zero_or_pos T1.length with h0 | h0
    · have hT1 : T1 = [] := List.eq_nil_of_length_eq_zero h0
      obtain ⟨A1', A2', S', d1, d2, d3, d4, d5, d6⟩ := hdone (by rw [hT1]; intro e he; cases he) h3 o3
      repeat (first | with_reducible refine wF ?_ | with_reducible refine wg0 rfl ?_ | with_reducible refine wpF ?_ | with_reducible refine wsm ?_ | (with_reducible refine wh0 rfl ?_) | with_reducible refine wadd1 (by omega) ?_ | with_reducible refine wgtrF (by omega) ?_ | rw [kLoop_exit] | rw [slices_insertionSortCmpFunc_int_.after1_se2_0_1_2_3_8_9_34] | dsimp only | simp only [env_C, env_g, env_lf, env_pick, env_alloc, env_box, env_build, env_buildSlice, env_load, env_store, env_ptr, env_bin, env_un, env_conv, env_make, env_slice, env_fieldAddr, env_field, env_indexAddr, env_index, env_extract, env_len, env_append, env_max, env_min, env_makeMap, env_lookup, env_update])
      exact next _ _ d1 ⟨A1', A2', S', i + 1, h3, rfl, rfl, d2, d3, d4, d5, d6, k3, l3⟩
    · obtain ⟨T, z, eT⟩ := last_of h0
      subst eT
      rw [List.length_append, List.length_singleton] at hj lT
      have hz1 : z ∈ A1 := pS.mem_iff.1 (by rw [eS]; simp)
      have okz : ok z := hok z (by rw [eA]; exact List.mem_append_left _ hz1)
      have oky : ok y := hok y (by rw [eA]; simp)
      have hcp : Cp kf cf z y := (List.pairwise_append.1 (eA ▸ hc)).2.2 z hz1 y (List.mem_cons_self ..)
      have o3' : OwnSl n0 h3 p ((U ++ T) ++ z :: ([] ++ y :: (T2 ++ (A2 ++ V)))) := by simpa using o3
      obtain ⟨ai, aj, _, _, h5, h6, ei, ej, li, lj, _, _, _, _, _, s5, s6, o6, k6, l6⟩ := own_swap o3' (i := j - 1) (j := j) (by rw [List.length_append]; omega) (by simp only [List.length_append, List.length_nil]; omega)
      obtain ⟨c, ec, hcc⟩ := hcmp n (by omega) y z oky okz h3
      by_cases hlt : cf y < cf z
      · have hc0 := hcc.2 hlt
        repeat (first | with_reducible refine wT ?_ | with_reducible refine wg1 rfl ?_ | with_reducible refine wpT ?_ | with_reducible refine wpv ?_ | with_reducible refine wsm ?_ | with_reducible refine wck plain_int ?_ | with_reducible refine wbd (by assumption) ?_ | (with_reducible refine wh1 rfl ?_) | (with_reducible refine wfn ?_) | with_reducible refine wsub1 (by omega) (by omega) ?_ | with_reducible refine wlssT (by omega) ?_ | with_reducible refine wgtrT (by omega) ?_)
        exact next2 _ _ (by rw [List.length_append, List.length_singleton]; omega) ⟨T, z :: T2, j - 1, h6, rfl, rfl, by rw [eS, List.append_assoc]; rfl, by omega, (by
          intro e he
          rcases List.mem_cons.1 he with rfl | he
          · exact hcp.2.1 hlt
          · exact hT2 e he), by simpa using o6, k3.trans k6, l6.trans l3⟩
      · have hc0 : ¬ c < 0 := fun hh => hlt (hcc.1 hh)
        have hzy : kf z < kf y := by have := hcp.1; have := mt hcp.2.2 hlt; omega
        obtain ⟨A1', A2', S', d1, d2, d3, d4, d5, d6⟩ := hdone (by
          intro e he
          rcases List.mem_append.1 he with he | he
          · have hsz : Srt kf (T ++ [z]) := Srt.left (eS ▸ sS)
            exact Nat.lt_trans (hsz.across e he z (List.mem_singleton_self _)) hzy
          · rw [List.mem_singleton.1 he]; exact hzy) h3 o3
        repeat (first | with_reducible refine wF ?_ | with_reducible refine wg1 rfl ?_ | with_reducible refine wpT ?_ | with_reducible refine wpv ?_ | with_reducible refine wsm ?_ | with_reducible refine wck plain_int ?_ | with_reducible refine wbd (by assumption) ?_ | (with_reducible refine wh1 rfl ?_) | (with_reducible refine wfn ?_) | with_reducible refine wadd1 (by omega) ?_ | with_reducible refine wsub1 (by omega) (by omega) ?_ | with_reducible refine wlssF (by omega) ?_ | with_reducible refine wgtrT (by omega) ?_ | rw [kLoop_exit] | rw [slices_insertionSortCmpFunc_int_.after1_se2_0_1_2_3_8_9_34] | dsimp only | simp only [env_C, env_g, env_lf, env_pick, env_alloc, env_box, env_build, env_buildSlice, env_load, env_store, env_ptr, env_bin, env_un, env_conv, env_make, env_slice, env_fieldAddr, env_field, env_indexAddr, env_index, env_extract, env_len, env_append, env_max, env_min, env_makeMap, env_lookup, env_update])
        exact next _ _ d1 ⟨A1', A2', S', i + 1, h3, rfl, rfl, d2, d3, d4, d5, d6, k3, l3⟩

/-- A block of one, before the other one. -/
theorem symL_W {n0 : Nat} {h : PHeap} {p : PV} {U R V : List Int} {x : Int} {a m b : Nat} (s : OwnSl n0 h p (U ++ (x :: (R ++ V)))) (hl : (U ++ (x :: (R ++ V))).length ≤ 512) (okx : ok x) (hok : ∀ y ∈ R, ok y) (hR : Srt kf R) (hc : ∀ y ∈ R, Cp kf cf x y)
    (ha : a = U.length) (hm : m = a + 1) (hb : b = m + R.length) (N : Nat) (hN : 6 ≤ N) :
    W (CL g lf N fn_slices_symMergeCmpFunc_int_ [p, .int .i64 (a : Int), .int .i64 (m : Int), .int .i64 (b : Int), .fn f] h) fun _ h' => ∃ S, S.Perm ([x] ++ R) ∧ Srt kf S ∧ OwnSl n0 h' p (U ++ (S ++ V)) ∧ Keep n0 h h' ∧ h'.length = h.length := by
  obtain ⟨n, rfl⟩ : ∃ n, N = n + 1 := ⟨N - 1, by omega⟩
  simp only [List.length_append, List.length_cons] at hl
  rw [slices_symMergeCmpFunc_int_.call_eq]
  unfold slices_symMergeCmpFunc_int_.main
  simp only [env_lf, env_bin, env_conv]
  repeat (first | with_reducible refine wT ?_ | (with_reducible refine wsubN (by omega) (by omega) ?_) | with_reducible refine weqlT (by omega) ?_)
  refine loopW (fun z st => ∃ (R1 Rm R2 : List Int) (i j : Nat), st = slices_symMergeCmpFunc_int_.st0 p (.int .i64 (a : Int)) (.fn f) (.int .i64 (i : Int)) (.int .i64 (j : Int)) h ∧ z = Rm.length ∧ R = R1 ++ (Rm ++ R2) ∧ i = m + R1.length ∧ j = i + Rm.length ∧ (R1 = [] ∨ ∃ u y, R1 = u ++ [y] ∧ cf y < cf x) ∧ (R2 = [] ∨ ∃ y v, R2 = y :: v ∧ ¬ cf y < cf x)) ?_ lf R.length _ (by omega)
    ⟨[], R, [], m, b, rfl, rfl, by simp, rfl, hb, .inl rfl, .inl rfl⟩
  rintro n1 z st ⟨R1, Rm, R2, i, j, rfl, rfl, eR, hi, hj, h1, h2⟩ next
  have lR : R.length = R1.length + (Rm.length + R2.length) := by rw [eR]; simp only [List.length_append]
  rw [slices_symMergeCmpFunc_int_.body0_eq]
  unfold slices_symMergeCmpFunc_int_.body0
  simp only [env_C, env_load, env_bin, env_conv, env_indexAddr]
  rcases Nat.eq_zero_or_pos Rm.length with h0 | h0
  · have hRm : Rm = [] := List.eq_nil_of_length_eq_zero h0
    subst hRm
    rw [List.nil_append] at eR
    repeat (first | with_reducible refine wF ?_ | with_reducible refine wlssF (by omega) ?_ | rw [kLoop_exit] | rw [slices_symMergeCmpFunc_int_.after0_se0_0_1_4_10_11_33] | simp only [env_C, env_g, env_lf, env_pick, env_alloc, env_box, env_build, env_buildSlice, env_load, env_store, env_ptr, env_bin, env_un, env_conv, env_make, env_slice, env_fieldAddr, env_field, env_indexAddr, env_index, env_extract, env_len, env_append, env_max, env_min, env_makeMap, env_lookup, env_update])
    have hsp1 := split_ok (L := [x]) (L1 := []) (L2 := [x]) (Srt.one x) hR (fun u hu y hy => by rw [List.mem_singleton.1 hu]; exact hc y hy) rfl eR (.inl rfl) (by
      rcases h1 with h1 | ⟨u, y, e, hy⟩
      · exact .inl h1
      · exact .inr (.inr ⟨u, y, x, [], e, rfl, hy⟩))
    have hsp2 := split_ok (L := [x]) (L1 := [x]) (L2 := []) (Srt.one x) hR (fun u hu y hy => by rw [List.mem_singleton.1 hu]; exact hc y hy) rfl eR (by
      rcases h2 with h2 | ⟨y, v, e, hy⟩
      · exact .inr (.inl h2)
      · exact .inr (.inr ⟨[], x, y, v, rfl, e, hy⟩)) (.inr (.inl rfl))
    subst eR
    have hS : (R1 ++ x :: R2).Perm ([x] ++ (R1 ++ R2)) ∧ Srt kf (R1 ++ x :: R2) := by
      refine ⟨List.perm_middle, hR.left.app (List.pairwise_cons.2 ⟨fun y hy => hsp2.1 x (List.mem_singleton_self _) y hy, hR.right⟩) fun e he e' he' => ?_⟩
      rcases List.mem_cons.1 he' with rfl | he'
      · exact hsp1.2 e he _ (List.mem_singleton_self _)
      · exact hR.across e he e' he'
    clear next
    refine loopW (fun z st => ∃ (Ra Rb : List Int) (k : Nat) (h2 : PHeap), st = slices_symMergeCmpFunc_int_.st3 p (.int .i64 (i : Int)) (.int .i64 (k : Int)) h2 ∧ z = Rb.length ∧ R1 = Ra ++ Rb ∧ k = a + Ra.length ∧ OwnSl n0 h2 p ((U ++ Ra) ++ x :: (Rb ++ (R2 ++ V))) ∧ Keep n0 h h2 ∧ h2.length = h.length) ?_ lf R1.length _ (by omega)
      ⟨[], R1, a, h, rfl, rfl, rfl, rfl, by simpa using s, Keep.refl _ _, rfl⟩
    rintro n2 z2 st2 ⟨Ra, Rb, k, h2, rfl, rfl, eR1, hk, o, k2, l2⟩ next2
    have lR1 : R1.length = Ra.length + Rb.length := by rw [eR1, List.length_append]
    rw [slices_symMergeCmpFunc_int_.body3_eq]
    unfold slices_symMergeCmpFunc_int_.body3
    simp only [env_load, env_store, env_bin, env_indexAddr]
    cases Rb with
    | nil =>
      rw [List.length_nil] at lR1
      rw [List.append_nil] at eR1
      subst eR1
      repeat (first | with_reducible refine wF ?_ | with_reducible refine wsub1 (by omega) (by omega) ?_ | with_reducible refine wlssF (by omega) ?_ | rw [kLoop_exit] | rw [slices_symMergeCmpFunc_int_.after3_se2_0_10_13_58])
      exact W.ret ⟨R1 ++ x :: R2, hS.1, hS.2, by simpa using o, k2, l2⟩
    | cons y Rb =>
      rw [List.length_cons] at lR1
      have o' : OwnSl n0 h2 p ((U ++ Ra) ++ x :: ([] ++ y :: (Rb ++ (R2 ++ V)))) := by simpa using o
      obtain ⟨ai, aj, h5, h6, _, _, ei, ej, li, lj, s5, s6, o6, k6, l6, _⟩ := own_swap o' (i := k) (j := k + 1) (by rw [List.length_append]; omega) (by simp only [List.length_append, List.length_nil]; omega)
      repeat (first | with_reducible refine wT ?_ | with_reducible refine wbd (by assumption) ?_ | with_reducible refine wadd1 (by omega) ?_ | with_reducible refine wsub1 (by omega) (by omega) ?_ | with_reducible refine wlssT (by omega) ?_)
      exact next2 _ _ (by rw [List.length_cons]; omega) ⟨Ra ++ [y], Rb, k + 1, h6, rfl, rfl, by rw [eR1, List.append_assoc]; rfl, by rw [List.length_append, List.length_singleton]; omega, by simpa using o6, k2.trans k6, l6.trans l2⟩
  · obtain ⟨Ra, y, Rb, eRm, hRa⟩ := split_at (q := (i + j) / 2 - i) (l := Rm) (by omega)
    subst eRm
    simp only [List.length_append, List.length_cons] at lR hj h0
    have oky : ok y := hok y (by rw [eR]; simp)
    obtain ⟨ay, ey, ly⟩ := own_read (A := U ++ x :: (R1 ++ Ra)) (x := y) (C := Rb ++ (R2 ++ V)) (h := h) (p := p) (n0 := n0) (by rw [eR] at s; simpa [List.append_assoc] using s) (i := (i + j) / 2) (by simp only [List.length_append, List.length_cons]; omega)
    obtain ⟨ax, ex, lx⟩ := own_read s ha
    obtain ⟨c, ec, hcc⟩ := hcmp n (by omega) y x oky okx h
    by_cases hlt : cf y < cf x
    · have hc0 := hcc.2 hlt
      repeat (first | with_reducible refine wT ?_ | with_reducible refine wck plain_int ?_ | with_reducible refine wbd (by assumption) ?_ | (with_reducible refine wfn ?_) | (with_reducible refine whalf (by omega) ?_) | with_reducible refine wadd1 (by omega) ?_ | with_reducible refine waddN (by omega) ?_ | with_reducible refine wlssT (by omega) ?_ | dsimp only)
      exact next _ _ (by simp only [List.length_append, List.length_cons]; omega) ⟨R1 ++ (Ra ++ [y]), Rb, R2, (i + j) / 2 + 1, j, rfl, rfl, by rw [eR]; simp [List.append_assoc], by simp only [List.length_append, List.length_singleton]; omega, by omega, .inr ⟨R1 ++ Ra, y, by simp [List.append_assoc], hlt⟩, h2⟩
    · have hc0 : ¬ c < 0 := fun hh => hlt (hcc.1 hh)
      repeat (first | with_reducible refine wT ?_ | with_reducible refine wF ?_ | with_reducible refine wck plain_int ?_ | with_reducible refine wbd (by assumption) ?_ | (with_reducible refine wfn ?_) | (with_reducible refine whalf (by omega) ?_) | with_reducible refine waddN (by omega) ?_ | with_reducible refine wlssT (by omega) ?_ | with_reducible refine wlssF (by omega) ?_ | dsimp only)
      exact next _ _ (by simp only [List.length_append, List.length_cons]; omega) ⟨R1, Ra, y :: (Rb ++ R2), i, (i + j) / 2, rfl, rfl, by rw [eR]; simp [List.append_assoc], hi, by omega, h1, .inr ⟨y, Rb ++ R2, rfl, hlt⟩⟩

/-- A block of one, behind the other one. -/
theorem symR_W {n0 : Nat} {h : PHeap} {p : PV} {U L V : List Int} {y : Int} {a m b : Nat} (s : OwnSl n0 h p (U ++ (L ++ y :: V))) (hl : (U ++ (L ++ y :: V)).length ≤ 512) (oky : ok y) (hok : ∀ x ∈ L, ok x) (hL : Srt kf L) (hc : ∀ x ∈ L, Cp kf cf x y)
    (ha : a = U.length) (hm : m = a + L.length) (hb : b = m + 1) (hL1 : 2 ≤ L.length) (N : Nat) (hN : 6 ≤ N) :
    W (CL g lf N fn_slices_symMergeCmpFunc_int_ [p, .int .i64 (a : Int), .int .i64 (m : Int), .int .i64 (b : Int), .fn f] h) fun _ h' => ∃ S, S.Perm (L ++ [y]) ∧ Srt kf S ∧ OwnSl n0 h' p (U ++ (S ++ V)) ∧ Keep n0 h h' ∧ h'.length = h.length := by
  obtain ⟨n, rfl⟩ : ∃ n, N = n + 1 := ⟨N - 1, by omega⟩
  simp only [List.length_append, List.length_cons] at hl
  rw [slices_symMergeCmpFunc_int_.call_eq]
  unfold slices_symMergeCmpFunc_int_.main
  simp only [env_lf, env_bin, env_conv]
  repeat (first | with_reducible refine wT ?_ | with_reducible refine wF ?_ | (with_reducible refine wsubN (by omega) (by omega) ?_) | with_reducible refine weqlT (by omega) ?_ | with_reducible refine weqlF (by omega) ?_)
  refine loopW (fun z st => ∃ (L1 Lm L2 : List Int) (i j : Nat), st = slices_symMergeCmpFunc_int_.st1 p (.int .i64 (m : Int)) (.fn f) (.int .i64 (i : Int)) (.int .i64 (j : Int)) h ∧ z = Lm.length ∧ L = L1 ++ (Lm ++ L2) ∧ i = a + L1.length ∧ j = i + Lm.length ∧ (L1 = [] ∨ ∃ u x, L1 = u ++ [x] ∧ ¬ cf y < cf x) ∧ (L2 = [] ∨ ∃ x v, L2 = x :: v ∧ cf y < cf x)) ?_ lf L.length _ (by omega)
    ⟨[], L, [], a, m, rfl, rfl, by simp, rfl, hm, .inl rfl, .inl rfl⟩
  rintro n1 z st ⟨L1, Lm, L2, i, j, rfl, rfl, eL, hi, hj, h1, h2⟩ next
  have lL : L.length = L1.length + (Lm.length + L2.length) := by rw [eL]; simp only [List.length_append]
  rw [slices_symMergeCmpFunc_int_.body1_eq]
  unfold slices_symMergeCmpFunc_int_.body1
  simp only [env_C, env_load, env_bin, env_un, env_conv, env_indexAddr]
  rcases Nat.eq_zero_or_pos Lm.length with h0 | h0
  · have hLm : Lm = [] := List.eq_nil_of_length_eq_zero h0
    subst hLm
    rw [List.nil_append] at eL
    rw [List.length_nil] at lL
    repeat (first | with_reducible refine wF ?_ | with_reducible refine wlssF (by omega) ?_ | rw [kLoop_exit] | rw [slices_symMergeCmpFunc_int_.after1_se4_0_2_4_14_15_85] | simp only [env_C, env_g, env_lf, env_pick, env_alloc, env_box, env_build, env_buildSlice, env_load, env_store, env_ptr, env_bin, env_un, env_conv, env_make, env_slice, env_fieldAddr, env_field, env_indexAddr, env_index, env_extract, env_len, env_append, env_max, env_min, env_makeMap, env_lookup, env_update])
    have hsp1 := split_ok (R := [y]) (R1 := []) (R2 := [y]) hL (Srt.one y) (fun u hu v hv => by rw [List.mem_singleton.1 hv]; exact hc u hu) eL rfl (by
      rcases h1 with h1 | ⟨u, x, e, hx⟩
      · exact .inl h1
      · exact .inr (.inr ⟨u, x, y, [], e, rfl, hx⟩)) (.inl rfl)
    have hsp2 := split_ok (R := [y]) (R1 := [y]) (R2 := []) hL (Srt.one y) (fun u hu v hv => by rw [List.mem_singleton.1 hv]; exact hc u hu) eL rfl (.inr (.inl rfl)) (by
      rcases h2 with h2 | ⟨x, v, e, hx⟩
      · exact .inr (.inl h2)
      · exact .inr (.inr ⟨[], y, x, v, rfl, e, hx⟩))
    subst eL
    have hS : (L1 ++ y :: L2).Perm (L1 ++ L2 ++ [y]) ∧ Srt kf (L1 ++ y :: L2) := by
      refine ⟨List.perm_middle.trans (List.perm_append_singleton y _).symm, hL.left.app (List.pairwise_cons.2 ⟨fun e he => hsp2.2 y (List.mem_singleton_self _) e he, hL.right⟩) fun e he e' he' => ?_⟩
      rcases List.mem_cons.1 he' with rfl | he'
      · exact hsp1.1 e he _ (List.mem_singleton_self _)
      · exact hL.across e he e' he'
    clear next
    refine loopW (fun z st => ∃ (La Lb : List Int) (k : Nat) (h2 : PHeap), st = slices_symMergeCmpFunc_int_.st4 p (.int .i64 (i : Int)) (.int .i64 (k : Int)) h2 ∧ z = La.length ∧ L2 = La ++ Lb ∧ k = i + La.length ∧ OwnSl n0 h2 p ((U ++ (L1 ++ La)) ++ y :: (Lb ++ V)) ∧ Keep n0 h h2 ∧ h2.length = h.length) ?_ lf L2.length _ (by omega)
      ⟨L2, [], m, h, rfl, rfl, (List.append_nil _).symm, by rw [hm]; simp only [List.length_append]; omega, by simpa using s, Keep.refl _ _, rfl⟩
    rintro n2 z2 st2 ⟨La, Lb, k, h2, rfl, rfl, eL2, hk, o, k2, l2⟩ next2
    have lL2 : L2.length = La.length + Lb.length := by rw [eL2, List.length_append]
    rw [slices_symMergeCmpFunc_int_.body4_eq]
    unfold slices_symMergeCmpFunc_int_.body4
    simp only [env_load, env_store, env_bin, env_indexAddr]
    rcases Nat.eq_zero_or_pos La.length with h0 | h0
    · have hLa : La = [] := List.eq_nil_of_length_eq_zero h0
      subst hLa
      rw [List.nil_append] at eL2
      subst eL2
      repeat (first | with_reducible refine wF ?_ | with_reducible refine wgtrF (by omega) ?_ | rw [kLoop_exit] | rw [slices_symMergeCmpFunc_int_.after4_se6_0_14_17_110])
      exact W.ret ⟨L1 ++ y :: L2, hS.1, hS.2, by simpa using o, k2, l2⟩
    · obtain ⟨T, z, eT⟩ := last_of h0
      subst eT
      rw [List.length_append, List.length_singleton] at hk lL2
      have o' : OwnSl n0 h2 p ((U ++ (L1 ++ T)) ++ z :: ([] ++ y :: (Lb ++ V))) := by simpa using o
      obtain ⟨ai, aj, _, _, h5, h6, ei, ej, li, lj, _, _, _, _, _, s5, s6, o6, k6, l6⟩ := own_swap o' (i := k - 1) (j := k) (by simp only [List.length_append]; omega) (by simp only [List.length_append, List.length_nil]; omega)
      repeat (first | with_reducible refine wT ?_ | with_reducible refine wbd (by assumption) ?_ | with_reducible refine wsub1 (by omega) (by omega) ?_ | with_reducible refine wgtrT (by omega) ?_)
      exact next2 _ _ (by rw [List.length_append, List.length_singleton]; omega) ⟨T, z :: Lb, k - 1, h6, rfl, rfl, by rw [eL2, List.append_assoc]; rfl, by omega, by simpa using o6, k2.trans k6, l6.trans l2⟩
  · obtain ⟨La, x, Lb, eLm, hLa⟩ := split_at (q := (i + j) / 2 - i) (l := Lm) (by omega)
    subst eLm
    simp only [List.length_append, List.length_cons] at lL hj h0
    have okx : ok x := hok x (by rw [eL]; simp)
    obtain ⟨ax, ex, lx⟩ := own_read (A := U ++ (L1 ++ La)) (x := x) (C := Lb ++ (L2 ++ y :: V)) (h := h) (p := p) (n0 := n0) (by rw [eL] at s; simpa [List.append_assoc] using s) (i := (i + j) / 2) (by simp only [List.length_append]; omega)
    obtain ⟨ay, ey, ly⟩ := own_read (A := U ++ L) (x := y) (C := V) (h := h) (p := p) (n0 := n0) (by simpa [List.append_assoc] using s) (i := m) (by rw [List.length_append]; omega)
    obtain ⟨c, ec, hcc⟩ := hcmp n (by omega) y x oky okx h
    by_cases hlt : cf y < cf x
    · have hc0 := hcc.2 hlt
      repeat (first | with_reducible refine wT ?_ | with_reducible refine wF ?_ | with_reducible refine wnT ?_ | with_reducible refine wck plain_int ?_ | with_reducible refine wbd (by assumption) ?_ | (with_reducible refine wfn ?_) | (with_reducible refine whalf (by omega) ?_) | with_reducible refine waddN (by omega) ?_ | with_reducible refine wlssT (by omega) ?_ | dsimp only)
      exact next _ _ (by simp only [List.length_append, List.length_cons]; omega) ⟨L1, La, x :: (Lb ++ L2), i, (i + j) / 2, rfl, rfl, by rw [eL]; simp [List.append_assoc], hi, by omega, h1, .inr ⟨x, Lb ++ L2, rfl, hlt⟩⟩
    · have hc0 : ¬ c < 0 := fun hh => hlt (hcc.1 hh)
      repeat (first | with_reducible refine wT ?_ | with_reducible refine wnF ?_ | with_reducible refine wck plain_int ?_ | with_reducible refine wbd (by assumption) ?_ | (with_reducible refine wfn ?_) | (with_reducible refine whalf (by omega) ?_) | with_reducible refine wadd1 (by omega) ?_ | with_reducible refine waddN (by omega) ?_ | with_reducible refine wlssT (by omega) ?_ | with_reducible refine wlssF (by omega) ?_ | dsimp only)
      exact next _ _ (by simp only [List.length_append, List.length_cons]; omega) ⟨L1 ++ (La ++ [x]), Lb, L2, (i + j) / 2 + 1, j, rfl, rfl, by rw [eL]; simp [List.append_assoc], by simp only [List.length_append, List.length_singleton]; omega, by omega, .inr ⟨L1 ++ La, x, by simp [List.append_assoc], hlt⟩, h2⟩

end
end Go.Proofs.YtmhflbomploidaaDoor

/- The library's stable sort: two blocks merged. -/
set_option maxRecDepth 20000
namespace Go.Proofs.YtmhflbomploidaaDoor
open Go Go.Ip G

section
variable (g : Nat → PV) (lf : Nat) {f : FuncId} {ok : Int → Prop} {kf cf : Int → Nat} (hcmp : CmpOk g lf f ok cf) (hlf : 1000 < lf)
include hcmp hlf

/-- What is known below, and above, what is looked for. -/
def SymLo (cf : Int → Nat) (L R : List Int) (s0 a m pp i : Nat) : Prop := i = s0 ∨ ∃ La x Lb Ra y Rb, L = La ++ x :: Lb ∧ La.length = i - 1 - a ∧ R = Ra ++ y :: Rb ∧ Ra.length = pp - (i - 1) - m ∧ ¬ cf y < cf x
def SymHi (cf : Int → Nat) (L R : List Int) (r0 a m pp j : Nat) : Prop := j = r0 ∨ ∃ La x Lb Ra y Rb, L = La ++ x :: Lb ∧ La.length = j - a ∧ R = Ra ++ y :: Rb ∧ Ra.length = pp - j - m ∧ cf y < cf x
/-- What is asked of the merging of so few. -/
def SymAt (kf : Int → Nat) (cf : Int → Nat) (ok : Int → Prop) (g : Nat → PV) (lf : Nat) (f : FuncId) (D : Nat) : Prop :=
  ∀ (n0 : Nat) (h : PHeap) (p : PV) (U L R V : List Int) (a m b : Nat), OwnSl n0 h p (U ++ (L ++ (R ++ V))) → (U ++ (L ++ (R ++ V))).length ≤ 512 → (∀ x ∈ L, ok x) → (∀ x ∈ R, ok x) → Srt kf L → Srt kf R → (∀ x ∈ L, ∀ y ∈ R, Cp kf cf x y) →
    a = U.length → m = a + L.length → b = m + R.length → 0 < L.length → 0 < R.length → L.length + R.length ≤ 2 ^ D → ∀ N, D + 7 ≤ N →
    W (CL g lf N fn_slices_symMergeCmpFunc_int_ [p, .int .i64 (a : Int), .int .i64 (m : Int), .int .i64 (b : Int), .fn f] h) fun _ h' => ∃ S, S.Perm (L ++ R) ∧ Srt kf S ∧ OwnSl n0 h' p (U ++ (S ++ V)) ∧ Keep n0 h h' ∧ h'.length = h.length

/-- Behind the search: the middle parts change places, and both halves are merged. -/
theorem symFin_W {D : Nat} (ih : SymAt kf cf ok g lf f D) {n0 : Nat} {h : PHeap} {p r v : PV} {U L1 L2 R1 R2 V : List Int} {a s m e b mid nn pp : Nat} (o : OwnSl n0 h p (U ++ ((L1 ++ L2) ++ ((R1 ++ R2) ++ V)))) (hl : (U ++ ((L1 ++ L2) ++ ((R1 ++ R2) ++ V))).length ≤ 512)
    (okL : ∀ x ∈ L1 ++ L2, ok x) (okR : ∀ x ∈ R1 ++ R2, ok x) (hL : Srt kf (L1 ++ L2)) (hR : Srt kf (R1 ++ R2)) (hc : ∀ x ∈ L1 ++ L2, ∀ y ∈ R1 ++ R2, Cp kf cf x y)
    (hsp : (∀ x ∈ L1, ∀ y ∈ R2, kf x < kf y) ∧ (∀ y ∈ R1, ∀ x ∈ L2, kf y < kf x))
    (ha : a = U.length) (hs : s = a + L1.length) (hm : m = s + L2.length) (he : e = m + R1.length) (hb : b = e + R2.length) (hmid : mid = s + R1.length) (hnn : nn = s + e) (h1 : L1.length + R1.length ≤ 2 ^ D) (h2 : L2.length + R2.length ≤ 2 ^ D) (n : Nat) (hn : D + 7 ≤ n) :
    W (slices_symMergeCmpFunc_int_.K2 (env g lf n) (kTop Tryd.prog Tryd.f115) (.exit 8) (slices_symMergeCmpFunc_int_.se8_0_1_2_3_4_18_19_20_21_22_151 p (.int .i64 (a : Int)) (.int .i64 (m : Int)) (.int .i64 (b : Int)) (.fn f) (.int .i64 (mid : Int)) (.int .i64 (nn : Int)) (.int .i64 (s : Int)) r (.int .i64 (pp : Int)) v h)) fun _ h' => ∃ S, S.Perm ((L1 ++ L2) ++ (R1 ++ R2)) ∧ Srt kf S ∧ OwnSl n0 h' p (U ++ (S ++ V)) ∧ Keep n0 h h' ∧ h'.length = h.length := by
  simp only [List.length_append] at hl
  have nil_of : ∀ {l : List Int}, ¬ 0 < l.length → l = [] := fun hh => List.eq_nil_of_length_eq_zero (by omega)
  have step1 : ∃ g1, ((s < m ∧ m < e → ∃ v, CL g lf n fn_slices_rotateCmpFunc_int_ [p, .int .i64 (s : Int), .int .i64 (m : Int), .int .i64 (e : Int), .fn f] h = some (v, g1)) ∧ (¬ (s < m ∧ m < e) → g1 = h)) ∧ OwnSl n0 g1 p (U ++ (L1 ++ (R1 ++ (L2 ++ (R2 ++ V))))) ∧ Keep n0 h g1 ∧ g1.length = h.length := by
    by_cases c : s < m ∧ m < e
    · obtain ⟨v, g1, e1, o1, k1, l1⟩ := rotate_W g lf hlf (.fn f) (U := U ++ L1) (X := L2) (Y := R1) (V := R2 ++ V) (a := s) (m := m) (b := e) (h := h) (p := p) (n0 := n0) (by simpa [List.append_assoc] using o) (by simp only [List.length_append]; omega) (by rw [List.length_append]; omega) hm he (by omega) (by omega) n (by omega)
      exact ⟨g1, ⟨fun _ => ⟨v, e1⟩, fun hn => absurd c hn⟩, by simpa [List.append_assoc] using o1, k1, l1⟩
    · refine ⟨h, ⟨fun hc => absurd hc c, fun _ => rfl⟩, ?_, Keep.refl _ _, rfl⟩
      by_cases c1 : 0 < L2.length
      · have hR1 : R1 = [] := nil_of (by omega)
        subst hR1
        simpa [List.append_assoc] using o
      · have hL2 := nil_of c1
        subst hL2
        simpa [List.append_assoc] using o
  obtain ⟨g1, q1, o1, k1, l1⟩ := step1
  have step2 : ∃ M1 g2, ((a < s ∧ s < mid → ∃ v, CL g lf n fn_slices_symMergeCmpFunc_int_ [p, .int .i64 (a : Int), .int .i64 (s : Int), .int .i64 (mid : Int), .fn f] g1 = some (v, g2)) ∧ (¬ (a < s ∧ s < mid) → g2 = g1)) ∧ M1.Perm (L1 ++ R1) ∧ Srt kf M1 ∧ OwnSl n0 g2 p (U ++ (M1 ++ (L2 ++ (R2 ++ V)))) ∧ Keep n0 g1 g2 ∧ g2.length = g1.length := by
    by_cases c : a < s ∧ s < mid
    · obtain ⟨v, g2, e2, M1, p2, s2, o2, k2, l2⟩ := ih n0 g1 p U L1 R1 (L2 ++ (R2 ++ V)) a s mid o1 (by simp only [List.length_append]; omega) (fun x hx => okL x (List.mem_append_left _ hx)) (fun x hx => okR x (List.mem_append_left _ hx)) hL.left hR.left
        (Cp.sub hc (fun x hx => List.mem_append_left _ hx) (fun x hx => List.mem_append_left _ hx)) ha hs hmid (by omega) (by omega) h1 n hn
      exact ⟨M1, g2, ⟨fun _ => ⟨v, e2⟩, fun hn => absurd c hn⟩, p2, s2, o2, k2, l2⟩
    · by_cases c1 : 0 < L1.length
      · have hR1 : R1 = [] := nil_of (by omega)
        subst hR1
        exact ⟨L1, g1, ⟨fun hc => absurd hc c, fun _ => rfl⟩, by simp, hL.left, by simpa using o1, Keep.refl _ _, rfl⟩
      · have hL1 := nil_of c1
        subst hL1
        exact ⟨R1, g1, ⟨fun hc => absurd hc c, fun _ => rfl⟩, by simp, hR.left, by simpa using o1, Keep.refl _ _, rfl⟩
  obtain ⟨M1, g2, q2, p2, s2, o2, k2, l2⟩ := step2
  have lM := p2.length_eq
  rw [List.length_append] at lM
  have step3 : ∃ M2 g3, ((mid < e ∧ e < b → ∃ v, CL g lf n fn_slices_symMergeCmpFunc_int_ [p, .int .i64 (mid : Int), .int .i64 (e : Int), .int .i64 (b : Int), .fn f] g2 = some (v, g3)) ∧ (¬ (mid < e ∧ e < b) → g3 = g2)) ∧ M2.Perm (L2 ++ R2) ∧ Srt kf M2 ∧ OwnSl n0 g3 p (U ++ (M1 ++ (M2 ++ V))) ∧ Keep n0 g2 g3 ∧ g3.length = g2.length := by
    by_cases c : mid < e ∧ e < b
    · obtain ⟨v, g3, e3, M2, p3, s3, o3, k3, l3⟩ := ih n0 g2 p (U ++ M1) L2 R2 V mid e b (by simpa [List.append_assoc] using o2) (by simp only [List.length_append]; omega) (fun x hx => okL x (List.mem_append_right _ hx)) (fun x hx => okR x (List.mem_append_right _ hx)) hL.right hR.right
        (Cp.sub hc (fun x hx => List.mem_append_right _ hx) (fun x hx => List.mem_append_right _ hx)) (by rw [List.length_append]; omega) (by omega) hb (by omega) (by omega) h2 n hn
      exact ⟨M2, g3, ⟨fun _ => ⟨v, e3⟩, fun hn => absurd c hn⟩, p3, s3, by simpa [List.append_assoc] using o3, k3, l3⟩
    · by_cases c1 : 0 < L2.length
      · have hR2 : R2 = [] := nil_of (by omega)
        subst hR2
        exact ⟨L2, g2, ⟨fun hc => absurd hc c, fun _ => rfl⟩, by simp, hL.right, by simpa using o2, Keep.refl _ _, rfl⟩
      · have hL2 := nil_of c1
        subst hL2
        exact ⟨R2, g2, ⟨fun hc => absurd hc c, fun _ => rfl⟩, by simp, hR.right, by simpa using o2, Keep.refl _ _, rfl⟩
  obtain ⟨M2, g3, q3, p3, s3, o3, k3, l3⟩ := step3
  have hM := merge_two hL hR hsp p2 s2 p3 s3
  have fin : ∃ S, S.Perm ((L1 ++ L2) ++ (R1 ++ R2)) ∧ Srt kf S ∧ OwnSl n0 g3 p (U ++ (S ++ V)) ∧ Keep n0 h g3 ∧ g3.length = h.length := ⟨M1 ++ M2, hM.1, hM.2, by rw [List.append_assoc]; exact o3, (k1.trans k2).trans k3, (l3.trans l2).trans l1⟩
  clear hM o o1 o2 o3 hsp
  rw [slices_symMergeCmpFunc_int_.after2_se8_0_1_2_3_4_18_19_20_21_22_151]
  simp only [env_C, env_bin, env_pick]
  refine wsubN (by omega) (by omega) ?_
  rw [show nn - s = e by omega]
  refine wandlt (fun c1 => ?_) (fun u1 c1 => ?_)
  · obtain ⟨v1, e1⟩ := q1.1 (by omega)
    dsimp only
    refine wbd e1 ?_
    dsimp only
    refine wandlt (fun c2 => ?_) (fun u2 c2 => ?_)
    · obtain ⟨v2, e2⟩ := q2.1 (by omega)
      dsimp only
      refine wbd e2 ?_
      dsimp only
      refine wandlt (fun c3 => ?_) (fun u3 c3 => ?_)
      · obtain ⟨v3, e3⟩ := q3.1 (by omega)
        dsimp only
        refine wbd e3 ?_
        dsimp only
        exact W.ret fin
      · obtain rfl := q3.2 (by omega)
        dsimp only
        exact W.ret fin
    · obtain rfl := q2.2 (by omega)
      dsimp only
      refine wandlt (fun c3 => ?_) (fun u3 c3 => ?_)
      · obtain ⟨v3, e3⟩ := q3.1 (by omega)
        dsimp only
        refine wbd e3 ?_
        dsimp only
        exact W.ret fin
      · obtain rfl := q3.2 (by omega)
        dsimp only
        exact W.ret fin
  · obtain rfl := q1.2 (by omega)
    dsimp only
    refine wandlt (fun c2 => ?_) (fun u2 c2 => ?_)
    · obtain ⟨v2, e2⟩ := q2.1 (by omega)
      dsimp only
      refine wbd e2 ?_
      dsimp only
      refine wandlt (fun c3 => ?_) (fun u3 c3 => ?_)
      · obtain ⟨v3, e3⟩ := q3.1 (by omega)
        dsimp only
        refine wbd e3 ?_
        dsimp only
        exact W.ret fin
      · obtain rfl := q3.2 (by omega)
        dsimp only
        exact W.ret fin
    · obtain rfl := q2.2 (by omega)
      dsimp only
      refine wandlt (fun c3 => ?_) (fun u3 c3 => ?_)
      · obtain ⟨v3, e3⟩ := q3.1 (by omega)
        dsimp only
        refine wbd e3 ?_
        dsimp only
        exact W.ret fin
      · obtain rfl := q3.2 (by omega)
        dsimp only
        exact W.ret fin

set_option maxHeartbeats 1000000 in
/-- The search for the place, and what comes behind it. -/
theorem symLoop_W {D : Nat} (ih : SymAt kf cf ok g lf f D) {n0 : Nat} {h : PHeap} {p : PV} {U L R V : List Int} {a m b mid nn pp s0 r0 : Nat} (s : OwnSl n0 h p (U ++ (L ++ (R ++ V)))) (hl : (U ++ (L ++ (R ++ V))).length ≤ 512) (okL : ∀ x ∈ L, ok x) (okR : ∀ x ∈ R, ok x) (hL : Srt kf L) (hR : Srt kf R) (hc : ∀ x ∈ L, ∀ y ∈ R, Cp kf cf x y)
    (ha : a = U.length) (hm : m = a + L.length) (hb : b = m + R.length) (hL0 : 2 ≤ L.length) (hR0 : 2 ≤ R.length) (hD : L.length + R.length ≤ 2 ^ D * 2) (hmid : mid = (a + b) / 2) (hnn : nn = mid + m) (hpp : pp = nn - 1) (n : Nat) (hn : D + 7 ≤ n)
    (hsr : (mid < m ∧ s0 = nn - b ∧ r0 = mid) ∨ (m ≤ mid ∧ s0 = a ∧ r0 = m)) :
    W (loopK (ev ((env g lf n).cx Tryd.prog slices_symMergeCmpFunc_int_.kl) slices_symMergeCmpFunc_int_.lp2) lf (slices_symMergeCmpFunc_int_.st2 p (.int .i64 (a : Int)) (.int .i64 (m : Int)) (.int .i64 (b : Int)) (.fn f) (.int .i64 (mid : Int)) (.int .i64 (nn : Int)) (.int .i64 (s0 : Int)) (.int .i64 (r0 : Int)) (.int .i64 (pp : Int)) h) (slices_symMergeCmpFunc_int_.K2 (env g lf n) (kTop Tryd.prog Tryd.f115)))
      fun _ h' => ∃ S, S.Perm (L ++ R) ∧ Srt kf S ∧ OwnSl n0 h' p (U ++ (S ++ V)) ∧ Keep n0 h h' ∧ h'.length = h.length := by
  have hl0 := hl
  simp only [List.length_append] at hl0
  refine loopW (fun z st => ∃ (i j : Nat), st = slices_symMergeCmpFunc_int_.st2 p (.int .i64 (a : Int)) (.int .i64 (m : Int)) (.int .i64 (b : Int)) (.fn f) (.int .i64 (mid : Int)) (.int .i64 (nn : Int)) (.int .i64 (i : Int)) (.int .i64 (j : Int)) (.int .i64 (pp : Int)) h ∧ z = j - i ∧ s0 ≤ i ∧ i ≤ j ∧ j ≤ r0 ∧ SymLo cf L R s0 a m pp i ∧ SymHi cf L R r0 a m pp j) ?_ lf (r0 - s0) _ (by omega)
    ⟨s0, r0, rfl, rfl, Nat.le_refl _, by omega, Nat.le_refl _, .inl rfl, .inl rfl⟩
  rintro n1 z st ⟨i, j, rfl, rfl, h1, h2, h3, hA, hB⟩ next
  rw [slices_symMergeCmpFunc_int_.body2_eq]
  unfold slices_symMergeCmpFunc_int_.body2
  simp only [env_C, env_load, env_bin, env_un, env_conv, env_indexAddr]
  by_cases hij : i < j
  · have b1 : (i + j) / 2 - a < L.length := by omega
    have b2 : pp - (i + j) / 2 - m < R.length := by omega
    have b3 : a ≤ (i + j) / 2 := by omega
    have b4 : m ≤ pp - (i + j) / 2 := by omega
    have b5 : (i + j) / 2 ≤ pp := by omega
    have b6 : i ≤ (i + j) / 2 := by omega
    have b7 : (i + j) / 2 < j := by omega
    obtain ⟨q, hq⟩ : ∃ q, q = (i + j) / 2 := ⟨_, rfl⟩
    have b8 : i + j < 4096 := by omega
    have b9 : pp < 4096 := by omega
    rw [← hq] at b1 b2 b3 b4 b5 b6 b7
    obtain ⟨La, x, Lb, eL, hLa⟩ := split_at b1
    obtain ⟨Ra, y, Rb, eR, hRa⟩ := split_at b2
    obtain ⟨ax, ex, lx⟩ := own_read (A := U ++ La) (x := x) (C := Lb ++ (R ++ V)) (h := h) (p := p) (n0 := n0) (by rw [eL] at s; simpa [List.append_assoc] using s) (i := q) (by simp only [List.length_append]; omega)
    obtain ⟨ay, ey, ly⟩ := own_read (A := U ++ (L ++ Ra)) (x := y) (C := Rb ++ V) (h := h) (p := p) (n0 := n0) (by rw [eR] at s; simpa [List.append_assoc] using s) (i := pp - q) (by simp only [List.length_append]; omega)
    have okx := okL x (by rw [eL]; simp)
    have oky := okR y (by rw [eR]; simp)
    clear hsr hmid hnn hpp hD hL0 hR0 hl0 hl hm hb ha s ih hL hR hc okL okR b1 b2 b3 b4
    obtain ⟨c, ec, hcc⟩ := hcmp n (by omega) y x oky okx h
    by_cases hlt : cf y < cf x
    · have hc0 := hcc.2 hlt
      repeat (first | with_reducible refine wT ?_ | with_reducible refine wF ?_ | with_reducible refine wnT ?_ | with_reducible refine wck plain_int ?_ | with_reducible refine wbd (by assumption) ?_ | (with_reducible refine wfn ?_) | (with_reducible refine whalf (by omega) ?_) | (with_reducible refine wsubN (by omega) (by omega) ?_) | (rw [← hq]) | with_reducible refine waddN (by omega) ?_ | with_reducible refine wlssT (by omega) ?_ | dsimp only)
      exact next _ _ (by omega) ⟨i, q, rfl, rfl, h1, b6, by omega, hA, .inr ⟨La, x, Lb, Ra, y, Rb, eL, hLa, eR, hRa, hlt⟩⟩
    · have hc0 : ¬ c < 0 := fun hh => hlt (hcc.1 hh)
      repeat (first | with_reducible refine wT ?_ | with_reducible refine wnF ?_ | with_reducible refine wck plain_int ?_ | with_reducible refine wbd (by assumption) ?_ | (with_reducible refine wfn ?_) | (with_reducible refine whalf (by omega) ?_) | (with_reducible refine wsubN (by omega) (by omega) ?_) | (rw [← hq]) | with_reducible refine wadd1 (by omega) ?_ | with_reducible refine waddN (by omega) ?_ | with_reducible refine wlssT (by omega) ?_ | with_reducible refine wlssF (by omega) ?_ | dsimp only)
      exact next _ _ (by omega) ⟨q + 1, j, rfl, rfl, by omega, by omega, h3, .inr ⟨La, x, Lb, Ra, y, Rb, eL, hLa, eR, hRa, hlt⟩, hB⟩
  · have hji : j = i := by omega
    subst hji
    repeat (first | with_reducible refine wF ?_ | with_reducible refine wlssF (by omega) ?_ | rw [kLoop_exit])
    clear next
    have e1 : (L.take (j - a)).length = j - a := by rw [List.length_take]; omega
    have e2 : (L.drop (j - a)).length = L.length - (j - a) := List.length_drop
    have e3 : (R.take (nn - j - m)).length = nn - j - m := by rw [List.length_take]; omega
    have e4 : (R.drop (nn - j - m)).length = R.length - (nn - j - m) := List.length_drop
    have hsp := split_ok hL hR hc (L1 := L.take (j - a)) (L2 := L.drop (j - a)) (R1 := R.take (nn - j - m)) (R2 := R.drop (nn - j - m)) (List.take_append_drop _ _).symm (List.take_append_drop _ _).symm (by
      unfold SymLo at hA
      clear hB
      rcases hA with hA | ⟨La, x, Lb, Ra, y, Rb, eL, hLa, eR, hRa, hlt⟩
      · rcases hsr with ⟨_, hs, _⟩ | ⟨_, hs, _⟩
        · exact .inr (.inl (List.eq_nil_of_length_eq_zero (by omega)))
        · exact .inl (List.eq_nil_of_length_eq_zero (by omega))
      · by_cases hja : j - a = 0
        · exact .inl (List.eq_nil_of_length_eq_zero (by omega))
        · by_cases hjb : R.length ≤ nn - j - m
          · exact .inr (.inl (List.eq_nil_of_length_eq_zero (by omega)))
          · refine .inr (.inr ⟨La, x, y, Rb, ?_, ?_, hlt⟩)
            · rw [eL, show j - a = La.length + 1 by omega, List.take_length_add_append]; rfl
            · rw [eR, show nn - j - m = Ra.length by omega, List.drop_left]) (by
      unfold SymHi at hB
      clear hA
      rcases hB with hB | ⟨La, x, Lb, Ra, y, Rb, eL, hLa, eR, hRa, hlt⟩
      · rcases hsr with ⟨_, _, hr⟩ | ⟨_, _, hr⟩
        · exact .inl (List.eq_nil_of_length_eq_zero (by omega))
        · exact .inr (.inl (List.eq_nil_of_length_eq_zero (by omega)))
      · by_cases hja : nn - j - m = 0
        · exact .inl (List.eq_nil_of_length_eq_zero (by omega))
        · refine .inr (.inr ⟨Ra, y, x, Lb, ?_, ?_, hlt⟩)
          · rw [eR, show nn - j - m = Ra.length + 1 by omega, List.take_length_add_append]; rfl
          · rw [eL, show j - a = La.length by omega, List.drop_left])
    have hfin := symFin_W g lf hcmp hlf ih (r := .int .i64 (j : Int)) (v := .bool false) (U := U) (L1 := L.take (j - a)) (L2 := L.drop (j - a)) (R1 := R.take (nn - j - m)) (R2 := R.drop (nn - j - m)) (V := V) (a := a) (s := j) (m := m) (e := nn - j) (b := b) (mid := mid) (nn := nn) (pp := pp) (h := h) (p := p) (n0 := n0)
      (by rw [List.take_append_drop, List.take_append_drop]; exact s) (by rw [List.take_append_drop, List.take_append_drop]; exact hl) (by rw [List.take_append_drop]; exact okL) (by rw [List.take_append_drop]; exact okR) (by rw [List.take_append_drop]; exact hL) (by rw [List.take_append_drop]; exact hR) (by rw [List.take_append_drop, List.take_append_drop]; exact hc)
      hsp ha (by omega) (by omega) (by omega) (by omega) (by omega) (by omega) (by omega) (by omega) n hn
    rw [List.take_append_drop, List.take_append_drop] at hfin
    exact hfin

set_option maxHeartbeats 1000000 in
theorem sym_W : ∀ D, SymAt kf cf ok g lf f D
  | 0 => by
    intro n0 h p U L R V a m b _ _ _ _ _ _ _ _ _ _ hL0 hR0 hD
    simp at hD
    omega
  | D + 1 => by
    intro n0 h p U L R V a m b s hl okL okR hL hR hc ha hm hb hL0 hR0 hD N hN
    have ih := sym_W D
    by_cases hL1 : L.length = 1
    · obtain ⟨x, rfl⟩ := List.length_eq_one_iff.1 hL1
      exact symL_W g lf hcmp hlf (U := U) (R := R) (V := V) (x := x) s hl (okL x (List.mem_singleton_self _)) okR hR (hc x (List.mem_singleton_self _)) ha hm hb N (by omega)
    · by_cases hR1 : R.length = 1
      · obtain ⟨y, rfl⟩ := List.length_eq_one_iff.1 hR1
        exact symR_W g lf hcmp hlf (U := U) (L := L) (V := V) (y := y) s hl (okR y (List.mem_singleton_self _)) okL hL (fun x hx => hc x hx y (List.mem_singleton_self _)) ha hm hb (by omega) N (by omega)
      · obtain ⟨n, rfl⟩ : ∃ n, N = n + 1 := ⟨N - 1, by omega⟩
        have hl0 := hl
        simp only [List.length_append] at hl0
        rw [Nat.pow_succ] at hD
        obtain ⟨mid, hmid⟩ : ∃ mid, mid = (a + b) / 2 := ⟨_, rfl⟩
        obtain ⟨nn, hnn⟩ : ∃ nn, nn = mid + m := ⟨_, rfl⟩
        obtain ⟨pp, hpp⟩ : ∃ pp, pp = nn - 1 := ⟨_, rfl⟩
        have key := fun s0 r0 hsr => symLoop_W g lf hcmp hlf ih s hl okL okR hL hR hc ha hm hb (by omega) (by omega) hD hmid hnn hpp n (by omega) (s0 := s0) (r0 := r0) hsr
        have b1 : b < 4096 := by omega
        have b2 : mid < 4096 := by omega
        have b3 : mid < m → b ≤ nn := by omega
        have b4 : 1 ≤ nn := by omega
        have b5 : a ≤ m := by omega
        have b6 : m ≤ b := by omega
        have b7 : m - a ≠ 1 := by omega
        have b8 : b - m ≠ 1 := by omega
        clear s hl okL okR hL hR hc ih hD hL0 hR0 hl0 ha hm hb
        rw [slices_symMergeCmpFunc_int_.call_eq]
        unfold slices_symMergeCmpFunc_int_.main
        simp only [env_lf, env_bin, env_conv]
        by_cases hmm : mid < m
        · have hk := key (nn - b) mid (.inl ⟨hmm, rfl, rfl⟩)
          have b3 := b3 hmm
          clear key
          repeat (first | with_reducible refine wT ?_ | with_reducible refine wF ?_ | (with_reducible refine whalf (by omega) ?_) | (with_reducible refine wsubN (by omega) (by omega) ?_) | (rw [← hmid]) | (rw [← hnn]) | (rw [← hpp]) | with_reducible refine waddN (by omega) ?_ | with_reducible refine wsub1 (by omega) (by omega) ?_ | with_reducible refine wgtrT (by omega) ?_ | with_reducible refine weqlF (by omega) ?_)
          exact hk
        · have hk := key a m (.inr ⟨by omega, rfl, rfl⟩)
          clear key
          repeat (first | with_reducible refine wF ?_ | (with_reducible refine whalf (by omega) ?_) | (with_reducible refine wsubN (by omega) (by omega) ?_) | (rw [← hmid]) | (rw [← hnn]) | (rw [← hpp]) | with_reducible refine waddN (by omega) ?_ | with_reducible refine wsub1 (by omega) (by omega) ?_ | with_reducible refine wgtrF (by omega) ?_ | with_reducible refine weqlF (by omega) ?_)
          exact hk

end
end Go.Proofs.YtmhflbomploidaaDoor

/- The program's chapter 2: Joins, GapOf, GroupOf, Filled and GapCells compute what the model's do. -/
set_option maxRecDepth 20000
namespace Go.Proofs.YtmhflbomploidaaDoor
open Go Go.Ip G

variable (g : Nat → PV) (lf n : Nat)

end Go.Proofs.YtmhflbomploidaaDoor

/- The least cell of a set, as the library finds it by its table of 64 bytes; and comparing a slice with nil, copying it. -/
set_option maxRecDepth 20000
namespace Go.Proofs.YtmhflbomploidaaDoor
open Go Go.Ip G

/-- The least number in a set of nine; nine if there is none. -/
def lowN (x : Nat) : Nat := ((List.range 9).find? fun k => x.testBit k).getD 9
def lsB (x : Nat) : Bool := x.testBit (lowN x) && decide (lowN x < 9) && (List.range (lowN x)).all (fun j => !x.testBit j) && (x &&& (x - 1) == without x (lowN x))
theorem ls_all : ((List.range 512).all fun x => x == 0 || lsB x) = true := by kernel_rfl
theorem low_ok {x : Nat} (hx : x < 2 ^ 9) (h0 : x ≠ 0) : x.testBit (lowN x) = true ∧ lowN x < 9 ∧ (∀ j, j < lowN x → x.testBit j = false) ∧ x &&& (x - 1) = without x (lowN x) := by
  have h := List.all_eq_true.1 ls_all x (List.mem_range.2 hx)
  have h1 : lsB x = true := by
    rcases Bool.or_eq_true_iff.1 h with h | h
    · exact absurd (by simpa using h) h0
    · exact h
  unfold lsB at h1
  simp only [Bool.and_eq_true, decide_eq_true_eq, beq_iff_eq] at h1
  obtain ⟨⟨⟨a, b⟩, c⟩, d⟩ := h1
  exact ⟨a, b, fun j hj => by have := List.all_eq_true.1 c j (List.mem_range.2 hj); simpa using this, d⟩

/-- What the library computes, step by step. -/
def isU (o : Option PV) (a : Nat) : Bool := match o with | some (.int .u64 (.ofNat b)) => b == a | _ => false
theorem isU_eq {o : Option PV} {a : Nat} (h : isU o a = true) : o = some (.int .u64 (a : Int)) := by
  unfold isU at h
  split at h
  · have := beq_iff_eq.1 h; subst this; rfl
  · cases h
def tz5 (x : Nat) : Nat := ((1 <<< lowN x) * 285870213051353865) % 2 ^ 64
def tz6 (x : Nat) : Nat := tz5 x / 2 ^ 58
noncomputable def tzB (x : Nat) : Bool := isU (unP .neg (.int .u64 (x : Int))) (2 ^ 64 - x) && (isU (binP Tryd.prog .and 92 (.int .u64 (x : Int)) (.int .u64 ((2 ^ 64 - x : Nat) : Int))) (1 <<< lowN x) &&
  (isU (binP Tryd.prog .mul 92 (.int .u64 ((1 <<< lowN x : Nat) : Int)) (.int .u64 285870213051353865)) (tz5 x) && (isU (binP Tryd.prog .shr 92 (.int .u64 (tz5 x : Int)) (.int .u64 58)) (tz6 x) && tab64N[tz6 x]? == some (lowN x))))
theorem tz_all : ((List.range 512).all fun x => x == 0 || tzB x) = true := by kernel_rfl
theorem tz_one {x : Nat} (hx : x < 2 ^ 9) (h0 : x ≠ 0) : tzB x = true := by
  have h := List.all_eq_true.1 tz_all x (List.mem_range.2 hx)
  rcases Bool.or_eq_true_iff.1 h with h | h
  · exact absurd (beq_iff_eq.1 h) h0
  · exact h
theorem tz_steps {x : Nat} (hx : x < 2 ^ 9) (h0 : x ≠ 0) : ∃ v3 v4 v5, ∃ i : Nat, unP .neg (.int .u64 (x : Int)) = some v3 ∧ binP Tryd.prog .and 92 (.int .u64 (x : Int)) v3 = some v4 ∧ binP Tryd.prog .mul 92 v4 (.int .u64 285870213051353865) = some v5 ∧
    binP Tryd.prog .shr 92 v5 (.int .u64 58) = some (.int .u64 (i : Int)) ∧ tab64N[i]? = some (lowN x) := by
  have h1 := tz_one hx h0
  unfold tzB at h1
  obtain ⟨a, h1⟩ := Bool.and_eq_true_iff.1 h1
  obtain ⟨b, h1⟩ := Bool.and_eq_true_iff.1 h1
  obtain ⟨c, h1⟩ := Bool.and_eq_true_iff.1 h1
  obtain ⟨d, h1⟩ := Bool.and_eq_true_iff.1 h1
  exact ⟨_, _, _, _, isU_eq a, isU_eq b, isU_eq c, isU_eq d, beq_iff_eq.1 h1⟩

theorem tyTzU : Tryd.prog.underlying 97 = some (.array 64 5) := by kernel_rfl
theorem tyTz1 : sizeT Tryd.prog 5 = some 1 := by kernel_rfl
theorem tyTzA : isAggT Tryd.prog 5 = some false := by kernel_rfl
theorem tzConv (l : Nat) (hl : l < 9) : convP Tryd.prog 5 3 (.int .u8 (l : Int)) = some (.int .i64 (l : Int)) := by
  have : convP Tryd.prog 5 3 (.int .u8 (l : Int)) = some (.int .i64 (IntKind.i64.wrap (l : Int))) := by kernel_rfl
  rw [this, wr (by omega)]
theorem tzConv2 (x : Nat) (hx : x < 2 ^ 9) : convP Tryd.prog 3 82 (.int .i64 (x : Int)) = some (.int .u64 (x : Int)) := by
  have : convP Tryd.prog 3 82 (.int .i64 (x : Int)) = some (.int .u64 (IntKind.u64.wrap (x : Int))) := by kernel_rfl
  rw [this]
  have : IntKind.u64.wrap (x : Int) = (x : Int) := by unfold IntKind.wrap; simp [IntKind.bits, IntKind.signed]; omega
  rw [this]

variable (g : Nat → PV) (lf n : Nat)

/-- The library's table is known to lie somewhere. -/
def Big (g : Nat → PV) : Prop := ∃ id, g 2 = .ptr id 0

theorem tz64_W {x : Nat} (hx : x < 2 ^ 9) (h0 : x ≠ 0) (hb : Big g) {h : PHeap} (ht : Tab64 g h) (N : Nat) (hN : 1 ≤ N) : CL g lf N fn_bits_TrailingZeros64 [.int .u64 (x : Int)] h = some (.int .i64 (lowN x : Int), h) := by
  obtain ⟨n, rfl⟩ : ∃ n, N = n + 1 := ⟨N - 1, by omega⟩
  obtain ⟨id, hg⟩ := hb
  have ho := ht id hg
  obtain ⟨v3, v4, v5, i, e3, e4, e5, e6, hi⟩ := tz_steps hx h0
  have hi64 : i < 64 := (List.getElem?_eq_some_iff.1 hi).1
  have e7 : indexAddrP Tryd.prog 97 (.ptr id 0) (.int .u64 (i : Int)) = some (.ptr id i) := by simp [indexAddrP, tyTzU, tyTz1]; omega
  have e8 : loadP Tryd.prog 5 (.ptr id i) h = some (.int .u8 (lowN x : Int)) := by
    simp [loadP, tyTzA, cellsAt, ho, PObj.get, tab64Cells, hi]
  have e9 := tzConv (lowN x) (low_ok hx h0).2.1
  have : W (CL g lf (n + 1) fn_bits_TrailingZeros64 [.int .u64 (x : Int)] h) fun v h' => v = .int .i64 (lowN x : Int) ∧ h' = h := by
    rw [bits_TrailingZeros64.call_eq]
    unfold bits_TrailingZeros64.main
    simp only [env_g, env_load, env_bin, env_un, env_conv, env_indexAddr]
    refine weqlF (by omega) ?_
    rw [hg]
    repeat (first | with_reducible refine wF ?_ | with_reducible refine wrI ?_ | with_reducible refine wbd (by assumption) ?_)
    exact W.ret ⟨rfl, rfl⟩
  obtain ⟨_, _, e, rfl, rfl⟩ := this
  exact e

theorem leastIn_W {x : Nat} (hx : x < 2 ^ 9) (h0 : x ≠ 0) (hb : Big g) {h : PHeap} (ht : Tab64 g h) (N : Nat) (hN : 3 ≤ N) : CL g lf N fn_impl_leastIn [.int .i64 (x : Int)] h = some (.int .i64 (lowN x : Int), h) := by
  obtain ⟨n, rfl⟩ : ∃ n, N = n + 1 := ⟨N - 1, by omega⟩
  obtain ⟨n, rfl⟩ : ∃ m, n = m + 1 := ⟨n - 1, by omega⟩
  have e1 := tzConv2 x hx
  have e2 := tz64_W g lf hx h0 hb ht n (by omega)
  have e3 : CL g lf (n + 1) fn_bits_TrailingZeros [.int .u64 (x : Int)] h = some (.int .i64 (lowN x : Int), h) := by
    have : W (CL g lf (n + 1) fn_bits_TrailingZeros [.int .u64 (x : Int)] h) fun v h' => v = .int .i64 (lowN x : Int) ∧ h' = h := by
      rw [bits_TrailingZeros.call_eq]
      unfold bits_TrailingZeros.main
      simp only [env_C, env_conv]
      repeat (first | with_reducible refine wF ?_ | with_reducible refine wrI ?_ | with_reducible refine wbd (by assumption) ?_ | dsimp only)
      exact W.ret ⟨rfl, rfl⟩
    obtain ⟨_, _, e, rfl, rfl⟩ := this
    exact e
  have : W (CL g lf (n + 1 + 1) fn_impl_leastIn [.int .i64 (x : Int)] h) fun v h' => v = .int .i64 (lowN x : Int) ∧ h' = h := by
    rw [impl_leastIn.call_eq]
    unfold impl_leastIn.main
    simp only [env_C, env_conv]
    repeat (first | with_reducible refine wrI ?_ | with_reducible refine wbd (by assumption) ?_ | dsimp only)
    exact W.ret ⟨rfl, rfl⟩
  obtain ⟨_, _, e, rfl, rfl⟩ := this
  exact e

/-- What a set loses with its least cell. -/
theorem f_drop {x : Nat} (hx : x < 2 ^ 9) (h0 : x ≠ 0) : binP Tryd.prog .sub 3 (.int .i64 (x : Int)) (.int .i64 1) = some (.int .i64 ((x - 1 : Nat) : Int)) ∧ binP Tryd.prog .and 3 (.int .i64 (x : Int)) (.int .i64 ((x - 1 : Nat) : Int)) = some (.int .i64 (without x (lowN x) : Int)) := by
  refine ⟨by rw [bin_sub, wr (by omega), show (x : Int) - 1 = ((x - 1 : Nat) : Int) by omega], ?_⟩
  rw [f_and (by omega) (by omega), (low_ok hx h0).2.2.2]
theorem without_lt9 {x k : Nat} (hx : x < 2 ^ 9) : without x k < 2 ^ 9 := by rw [← minusN_one]; exact minusN_lt hx
theorem without_less {x : Nat} (hx : x < 2 ^ 9) (h0 : x ≠ 0) : without x (lowN x) < x := by
  have h := (low_ok hx h0).2.2.2
  rw [← h]
  have : x &&& (x - 1) ≤ x - 1 := Nat.and_le_right
  omega

/-! ### slices.Clone -/
end Go.Proofs.YtmhflbomploidaaDoor

/- The program's search: structs and a map on the interpreter's heap; the sets' joining; what stands after a move. -/
set_option maxRecDepth 20000
namespace Go.Proofs.YtmhflbomploidaaDoor
open Go Go.Ip G

/-! ### objects by themselves, and what keeps all but one -/
def At (h : PHeap) (id : Nat) (l : List PV) : Prop := h[id]? = some (.own 1 l)
theorem At.lt {h : PHeap} {id : Nat} {l : List PV} (a : At h id l) : id < h.length := (List.getElem?_eq_some_iff.1 a).1
/-- All is as it was but the object m, and what is behind. -/
def KB (m : Nat) (h h' : PHeap) : Prop := h.length ≤ h'.length ∧ ∀ i, i < h.length → i ≠ m → h'[i]? = h[i]?
theorem KB.refl (m : Nat) (h : PHeap) : KB m h h := ⟨Nat.le_refl _, fun _ _ _ => rfl⟩
theorem KB.trans {m : Nat} {a b c : PHeap} (h : KB m a b) (k : KB m b c) : KB m a c := ⟨Nat.le_trans h.1 k.1, fun i hi hn => (k.2 i (Nat.lt_of_lt_of_le hi h.1) hn).trans (h.2 i hi hn)⟩
theorem Keep.kb {m : Nat} {a b : PHeap} (h : Keep a.length a b) : KB m a b := ⟨h.1, fun i hi _ => h.2 i hi⟩
theorem KB.keep {m n : Nat} {a b : PHeap} (h : KB m a b) (hm : n ≤ m) (hn : n ≤ a.length) : Keep n a b := ⟨h.1, fun i hi => h.2 i (Nat.lt_of_lt_of_le hi hn) (by omega)⟩
theorem At.keep {h h' : PHeap} {id : Nat} {l : List PV} (a : At h id l) (k : Keep h.length h h') : At h' id l := by unfold At; rw [k.2 id a.lt]; exact a
theorem At.kb {h h' : PHeap} {id m : Nat} {l : List PV} (a : At h id l) (k : KB m h h') (hn : id ≠ m) : At h' id l := by unfold At; rw [k.2 id a.lt hn]; exact a
def MapAt (h : PHeap) (m : Nat) (es : List (PV × PV)) : Prop := h[m]? = some (.mp es)
theorem MapAt.lt {h : PHeap} {m : Nat} {es : List (PV × PV)} (a : MapAt h m es) : m < h.length := (List.getElem?_eq_some_iff.1 a).1
theorem MapAt.keep {h h' : PHeap} {m : Nat} {es : List (PV × PV)} (a : MapAt h m es) (k : Keep h.length h h') : MapAt h' m es := by unfold MapAt; rw [k.2 m a.lt]; exact a
theorem MapAt.kb {h h' : PHeap} {id m : Nat} {es : List (PV × PV)} (a : MapAt h m es) (k : KB id h h') (hn : m ≠ id) : MapAt h' m es := by unfold MapAt; rw [k.2 m a.lt hn]; exact a
theorem At.ne {h : PHeap} {id m : Nat} {l : List PV} {es : List (PV × PV)} (a : At h id l) (b : MapAt h m es) : id ≠ m := by
  intro e; subst e; unfold At at a; unfold MapAt at b; rw [a] at b; cases b
theorem Fix.kb {b m : Nat} {h h' : PHeap} {p : PV} {xs : List Int} (s : Fix b h p xs) (k : KB m h h') (hb : b ≤ m) (hb2 : b ≤ h.length) : Fix b h' p xs := s.keep (k.keep hb hb2)

section
variable {Q : PV → PHeap → Prop} {h : PHeap}
/-- A new object. -/
theorem wnew {l : List PV} {x : Res} {f : PV × PHeap → Res} (hx : x = some (.ptr h.length 0, h ++ [.own 1 l])) (hf : ∀ h' id, At h' id l → Keep h.length h h' → h.length ≤ id → W (f (.ptr id 0, h')) Q) : W (x.bind f) Q := by
  rw [hx]
  exact hf _ _ (by unfold At; simp) (Keep.append _ _ _ (Nat.le_refl _)) (Nat.le_refl _)
/-- An object is written to. -/
theorem put_at {id : Nat} {l l' : List PV} (a : At h id l) : At (h.set id (.own 1 l')) id l' ∧ KB id h (h.set id (.own 1 l')) := by
  refine ⟨by unfold At; rw [List.getElem?_set_self a.lt], by simp, fun i _ hn => List.getElem?_set_ne (by omega)⟩
end

/-! ### types -/
theorem tyStA : isAggT Tryd.prog 58 = some true := by kernel_rfl
theorem tySt4 : sizeT Tryd.prog 58 = some 4 := by kernel_rfl
theorem tyStZ : zeroCellsT Tryd.prog 58 = some [.int .i64 0, .int .i64 0, .int .i64 0, .int .i64 0] := by kernel_rfl
theorem tyA3 : Tryd.prog.underlying 56 = some (.array 3 3) := by kernel_rfl
theorem tyA9 : Tryd.prog.underlying 75 = some (.array 9 3) := by kernel_rfl
theorem tyMp : Tryd.prog.underlying 74 = some (.map 58 3) := by kernel_rfl
theorem tyMpA : isAggT Tryd.prog 74 = some false := by kernel_rfl
theorem fSt0 (id : Nat) : fieldAddrP Tryd.prog 58 (.ptr id 0) 0 = some (.ptr id 0) := by kernel_rfl
theorem fSt1 (id : Nat) : fieldAddrP Tryd.prog 58 (.ptr id 0) 1 = some (.ptr id 3) := by kernel_rfl
theorem fs0 (id : Nat) : fieldAddrP Tryd.prog 77 (.ptr id 0) 0 = some (.ptr id 0) := by kernel_rfl
theorem fs1 (id : Nat) : fieldAddrP Tryd.prog 77 (.ptr id 0) 1 = some (.ptr id 9) := by kernel_rfl
theorem fs2 (id : Nat) : fieldAddrP Tryd.prog 77 (.ptr id 0) 2 = some (.ptr id 12) := by kernel_rfl
theorem fs3 (id : Nat) : fieldAddrP Tryd.prog 77 (.ptr id 0) 3 = some (.ptr id 15) := by kernel_rfl
theorem ia3 (id o i : Nat) (hi : i < 3) : indexAddrP Tryd.prog 56 (.ptr id o) (.int .i64 (i : Int)) = some (.ptr id (o + i)) := by simp [indexAddrP, tyA3, tySize]; omega
theorem ia9 (id o i : Nat) (hi : i < 9) : indexAddrP Tryd.prog 75 (.ptr id o) (.int .i64 (i : Int)) = some (.ptr id (o + i)) := by simp [indexAddrP, tyA9, tySize]; omega
theorem ld1 {h : PHeap} {id i : Nat} {l : List PV} {v : PV} (a : At h id l) (hv : l[i]? = some v) : loadP Tryd.prog 3 (.ptr id i) h = some v := by
  simp [loadP, tyAgg, cellsAt, show h[id]? = some (.own 1 l) from a, PObj.get, hv]
theorem ldM {h : PHeap} {id i : Nat} {l : List PV} {v : PV} (a : At h id l) (hv : l[i]? = some v) : loadP Tryd.prog 74 (.ptr id i) h = some v := by
  simp [loadP, tyMpA, cellsAt, show h[id]? = some (.own 1 l) from a, PObj.get, hv]
theorem st1 {h : PHeap} {id i : Nat} {l : List PV} {x : Int} (a : At h id l) (hi : i < l.length) : storeP Tryd.prog 3 (.ptr id i) (.int .i64 x) h = some (h.set id (.own 1 (l.set i (.int .i64 x)))) := by
  simp [storeP, show h[id]? = some (.own 1 l) from a, PV.cells, tySize, setCells]; omega

/-! ### what stands -/
def stC (f a b t : Nat) : List PV := [.int .i64 (f : Int), .int .i64 (a : Int), .int .i64 (b : Int), .int .i64 (t : Int)]
def stP (f a b t : Nat) : PV := .agg (stC f a b t)
theorem ldS {h : PHeap} {id f a b t : Nat} (o : At h id (stC f a b t)) : loadP Tryd.prog 58 (.ptr id 0) h = some (stP f a b t) := by
  simp [loadP, tyStA, tySt4, cellsAt, show h[id]? = some (.own 1 (stC f a b t)) from o, PObj.get, stC, stP]
theorem boxS (h : PHeap) (f a b t : Nat) : boxP (stP f a b t) h = some (.ptr h.length 0, h ++ [.own 1 (stC f a b t)]) := by simp [boxP, stP, stC, PV.cells, PV.oneCell]
theorem alS (h : PHeap) : allocP Tryd.prog 58 h = some (.ptr h.length 0, h ++ [.own 1 (stC 0 0 0 0)]) := by simp [allocP, tyStZ, stC]
theorem stS {h : PHeap} {id f a b t f' a' b' t' : Nat} (o : At h id (stC f' a' b' t')) : storeP Tryd.prog 58 (.ptr id 0) (stP f a b t) h = some (h.set id (.own 1 (stC f a b t))) := by
  simp [storeP, show h[id]? = some (.own 1 (stC f' a' b' t')) from o, stP, stC, PV.cells, PV.oneCell, tySt4, setCells]
theorem plainS {f a b t : Nat} : plainEq (stP f a b t) (stP f a b t) = true := plain_agg4

section
variable {Q : PV → PHeap → Prop} {h : PHeap} {id f a b t : Nat}
theorem wboxS {F : PV × PHeap → Res} (hf : ∀ h' id, At h' id (stC f a b t) → Keep h.length h h' → h.length ≤ id → W (F (.ptr id 0, h')) Q) : W ((boxP (stP f a b t) h).bind F) Q := wnew (boxS h f a b t) hf
theorem walS {F : PV × PHeap → Res} (hf : ∀ h' id, At h' id (stC 0 0 0 0) → Keep h.length h h' → h.length ≤ id → W (F (.ptr id 0, h')) Q) : W ((allocP Tryd.prog 58 h).bind F) Q := wnew (alS h) hf
theorem wstS {f' a' b' t' : Nat} (o : At h id (stC f' a' b' t')) {F : PHeap → Res} (hf : ∀ h', At h' id (stC f a b t) → KB id h h' → W (F h') Q) : W ((storeP Tryd.prog 58 (.ptr id 0) (stP f a b t) h).bind F) Q := by
  rw [stS o]; exact hf _ (put_at o).1 (put_at o).2
theorem wst1 {i : Nat} {l : List PV} {x : Int} (o : At h id l) (hi : i < l.length) {F : PHeap → Res} (hf : ∀ h', At h' id (l.set i (.int .i64 x)) → KB id h h' → W (F h') Q) : W ((storeP Tryd.prog 3 (.ptr id i) (.int .i64 x) h).bind F) Q := by
  rw [st1 o hi]; exact hf _ (put_at o).1 (put_at o).2
theorem wia3 {o i : Nat} (hi : i < 3) {F : PV → Res} (hf : W (F (.ptr id (o + i))) Q) : W ((indexAddrP Tryd.prog 56 (.ptr id o) (.int .i64 (i : Int))).bind F) Q := wbd (ia3 id o i hi) hf
theorem wia9 {o i : Nat} (hi : i < 9) {F : PV → Res} (hf : W (F (.ptr id (o + i))) Q) : W ((indexAddrP Tryd.prog 75 (.ptr id o) (.int .i64 (i : Int))).bind F) Q := wbd (ia9 id o i hi) hf
end

variable (g : Nat → PV) (lf n : Nat)

theorem exchanged_W (N : Nat) (hN : 1 ≤ N) (h : PHeap) {T : Nat} (hT : T = 1 ∨ T = 2) : CL g lf N fn_impl_exchanged [.int .i64 (T : Int)] h = some (.int .i64 ((3 - T : Nat) : Int), h) := by
  obtain ⟨n, rfl⟩ : ∃ n, N = n + 1 := ⟨N - 1, by omega⟩
  have : W (CL g lf (n + 1) fn_impl_exchanged [.int .i64 (T : Int)] h) fun v h' => v = .int .i64 ((3 - T : Nat) : Int) ∧ h' = h := by
    rw [impl_exchanged.call_eq]
    unfold impl_exchanged.main
    simp only [env_bin]
    rcases hT with rfl | rfl
    · repeat (first | with_reducible refine wT ?_ | with_reducible refine wrI ?_ | with_reducible refine weqlT (by omega) ?_)
      exact W.ret ⟨rfl, rfl⟩
    · repeat (first | with_reducible refine wT ?_ | with_reducible refine wF ?_ | with_reducible refine wrI ?_ | with_reducible refine weqlT (by omega) ?_ | with_reducible refine weqlF (by omega) ?_)
      exact W.ret ⟨rfl, rfl⟩
  obtain ⟨_, _, e, rfl, rfl⟩ := this
  exact e

theorem Keep.kbs {n m : Nat} {a b c : PHeap} (k : Keep n a b) (hn : n ≤ a.length) (k' : KB m b c) (hm : n ≤ m) : Keep n a c := k.trans (k'.keep hm (Nat.le_trans hn k.1))
theorem wia30 {Q : PV → PHeap → Prop} {id o : Nat} {F : PV → Res} (hf : W (F (.ptr id (o + 0))) Q) : W ((indexAddrP Tryd.prog 56 (.ptr id o) (.int .i64 0)).bind F) Q := wbd (ia3 id o 0 (by decide)) hf

theorem after_W {f a b t k : Nat} (hf : f < 2 ^ 9) (ha : a < 2 ^ 9) (hb : b < 2 ^ 9) (hk : k < 9) (ht : t = 1 ∨ t = 2) (N : Nat) (hN : 2 ≤ N) (h : PHeap) :
    W (CL g lf N fn_impl_standing_after [stP f a b t, .int .i64 (k : Int)] h) fun v h' => v = stP (without f k) (putA t k a) (putB t k b) (3 - t) ∧ Keep h.length h h' := by
  obtain ⟨n, rfl⟩ : ∃ n, N = n + 1 := ⟨N - 1, by omega⟩
  have hsl := shl_lt hk
  have e1 : ∀ h, CL g lf n fn_impl_exchanged [.int .i64 (t : Int)] h = some (.int .i64 ((3 - t : Nat) : Int), h) := fun h => exchanged_W g lf n (by omega) h ht
  rw [impl_standing_after.call_eq]
  unfold impl_standing_after.main
  simp only [env_C, env_alloc, env_box, env_load, env_store, env_bin, env_fieldAddr, env_indexAddr]
  refine wboxS fun h1 id o1 k1 l1 => ?_
  dsimp only
  refine walS fun h2 id2 o2 k2 l2 => ?_
  have o1' := o1.keep k2
  have hne : id2 ≠ id := by have := o1.lt; omega
  have kk2 : Keep h.length h h2 := k1.trans (k2.mono k1.1)
  repeat (first | (with_reducible refine wbd (fSt0 _) ?_) | (with_reducible refine wia30 ?_) | (with_reducible refine wbd (ld1 (by assumption) rfl) ?_) | with_reducible refine wshl (by omega) ?_ | with_reducible refine wandNot (by omega) (by omega) ?_ | dsimp only)
  refine wst1 o1' (show 0 + 0 < 4 by decide) fun h3 o3 k3 => ?_
  have o3 : At h3 id (stC (without f k) a b t) := o3
  have o23 := o2.kb k3 hne
  rcases ht with rfl | rfl
  · repeat (first | (with_reducible refine wbd (fSt0 _) ?_) | (with_reducible refine wbd (fSt1 _) ?_) | (with_reducible refine wia3 (by omega) ?_) | (with_reducible refine wbd (ld1 (by assumption) rfl) ?_) | with_reducible refine wshl (by omega) ?_ | with_reducible refine wor (by omega) (by omega) ?_)
    refine wst1 o3 (show 0 + 1 < 4 by decide) fun h4 o4 k4 => ?_
    have o4 : At h4 id (stC (without f k) (a ||| 1 <<< k) b 1) := o4
    have o24 := o23.kb k4 hne
    have e2 := e1 h4
    repeat (first | with_reducible refine wbd (by assumption) ?_ | (with_reducible refine wbd (fSt1 _) ?_) | (with_reducible refine wbd (ld1 (by assumption) rfl) ?_) | dsimp only)
    refine wst1 o4 (show 3 < 4 by decide) fun h5 o5 k5 => ?_
    have o5 : At h5 id (stC (without f k) (a ||| 1 <<< k) b (3 - 1)) := o5
    have o25 := o24.kb k5 hne
    repeat (first | (with_reducible refine wbd (ldS (by assumption)) ?_))
    refine wstS o25 fun h6 o6 k6 => ?_
    repeat (first | (with_reducible refine wbd (ldS (by assumption)) ?_))
    exact W.ret ⟨rfl, (((kk2.kbs (Nat.le_refl _) k3 l1).kbs (Nat.le_refl _) k4 l1).kbs (Nat.le_refl _) k5 l1).kbs (Nat.le_refl _) k6 (Nat.le_trans k1.1 l2)⟩
  · repeat (first | (with_reducible refine wbd (fSt0 _) ?_) | (with_reducible refine wbd (fSt1 _) ?_) | (with_reducible refine wia3 (by omega) ?_) | (with_reducible refine wbd (ld1 (by assumption) rfl) ?_) | with_reducible refine wshl (by omega) ?_ | with_reducible refine wor (by omega) (by omega) ?_)
    refine wst1 o3 (show 0 + 2 < 4 by decide) fun h4 o4 k4 => ?_
    have o4 : At h4 id (stC (without f k) a (b ||| 1 <<< k) 2) := o4
    have o24 := o23.kb k4 hne
    have e2 := e1 h4
    repeat (first | with_reducible refine wbd (by assumption) ?_ | (with_reducible refine wbd (fSt1 _) ?_) | (with_reducible refine wbd (ld1 (by assumption) rfl) ?_) | dsimp only)
    refine wst1 o4 (show 3 < 4 by decide) fun h5 o5 k5 => ?_
    have o5 : At h5 id (stC (without f k) a (b ||| 1 <<< k) (3 - 2)) := o5
    have o25 := o24.kb k5 hne
    repeat (first | (with_reducible refine wbd (ldS (by assumption)) ?_))
    refine wstS o25 fun h6 o6 k6 => ?_
    repeat (first | (with_reducible refine wbd (ldS (by assumption)) ?_))
    exact W.ret ⟨rfl, (((kk2.kbs (Nat.le_refl _) k3 l1).kbs (Nat.le_refl _) k4 l1).kbs (Nat.le_refl _) k5 l1).kbs (Nat.le_refl _) k6 (Nat.le_trans k1.1 l2)⟩

/-! ### a board's search -/
def nearV (R C j : Nat) : Nat := if j < R * C then wideN R C (1 <<< j) else 0
def srchV (R C : Nat) : List Nat := (List.range 9).map (nearV R C) ++ [0, sideN R C 1 false, sideN R C 2 false, 0, sideN R C 1 true, sideN R C 2 true]
def srchC (R C m : Nat) : List PV := (srchV R C).map (fun x : Nat => .int .i64 (x : Int)) ++ [.mapv m]
theorem srch_near (R C m k : Nat) (hk : k < 9) : (srchC R C m)[0 + k]? = some (.int .i64 (nearV R C k : Int)) := by
  rw [Nat.zero_add]
  unfold srchC srchV
  rw [List.map_append, List.append_assoc, List.getElem?_append_left (by simp; omega)]
  simp [hk]
theorem srch_first (R C m : Nat) {P : Nat} (hP : P = 1 ∨ P = 2) : (srchC R C m)[9 + P]? = some (.int .i64 (sideN R C P false : Int)) := by
  rcases hP with rfl | rfl <;> rfl
theorem srch_last (R C m : Nat) {P : Nat} (hP : P = 1 ∨ P = 2) : (srchC R C m)[12 + P]? = some (.int .i64 (sideN R C P true : Int)) := by
  rcases hP with rfl | rfl <;> rfl
theorem srch_map (R C m : Nat) : (srchC R C m)[15]? = some (.mapv m) := rfl

theorem nearV_lt {R C j : Nat} (hB : BoardOf R C) (hj : j < 9) : nearV R C j < 2 ^ 9 := by
  unfold nearV; split
  · exact wide_lt hB (shl_lt hj)
  · decide
theorem nearV_bit {R C k j : Nat} (hB : BoardOf R C) (hk : k < R * C) : (nearV R C k).testBit j = true ↔ j = k ∨ Adj (masksN R C) k j := by
  unfold nearV
  rw [if_pos hk, wide_bit hB, one_bit]
  constructor
  · rintro (h | ⟨i, h1, h2⟩)
    · exact .inl (by simpa using h)
    · rw [one_bit] at h1
      have : i = k := by simpa using h1
      exact .inr (this ▸ h2)
  · rintro (h | h)
    · exact .inl (by simpa using h)
    · exact .inr ⟨k, by rw [one_bit]; simp, h⟩
theorem bit_lt {x n j : Nat} (hx : x < 2 ^ n) (hj : x.testBit j = true) : j < n := by
  apply Classical.byContradiction
  intro hn
  rw [Nat.testBit_lt_two_pow (Nat.lt_of_lt_of_le hx (Nat.pow_le_pow_right (by decide) (by omega)))] at hj; cases hj

theorem joins_W {R C P own : Nat} (hB : BoardOf R C) (hP : P = 1 ∨ P = 2) (hown : own < 2 ^ (R * C)) (hbig : Big g) {h : PHeap} {s m : Nat} (hs : At h s (srchC R C m)) (ht : Tab64 g h) (N : Nat) (hN : 4 ≤ N) (hlf : 1000 < lf) :
    CL g lf N fn_impl_search_joins [.ptr s 0, .int .i64 (own : Int), .int .i64 (P : Int)] h = some (.bool (joinsN R C P own), h) := by
  obtain ⟨n, rfl⟩ : ∃ n, N = n + 1 := ⟨N - 1, by omega⟩
  have h9 := hB.2.2.2.2
  have hown9 : own < 2 ^ 9 := Nat.lt_of_lt_of_le hown (Nat.pow_le_pow_right (by decide) h9)
  have hP3 : P < 3 := by omega
  have s1 := sideN_lt (P := P) (last := false) hB
  have s2 := sideN_lt (P := P) (last := true) hB
  have hS9 : own &&& sideN R C P false < 2 ^ 9 := Nat.and_lt_two_pow _ s1
  have : W (CL g lf (n + 1) fn_impl_search_joins [.ptr s 0, .int .i64 (own : Int), .int .i64 (P : Int)] h) fun v h' => v = .bool (joinsN R C P own) ∧ h' = h := by
    rw [impl_search_joins.call_eq]
    unfold impl_search_joins.main
    simp only [env_lf, env_load, env_ptr, env_bin, env_fieldAddr, env_indexAddr]
    repeat (first | with_reducible refine wptr ?_ | (with_reducible refine wbd (fs1 _) ?_) | (with_reducible refine wia3 (by omega) ?_) | (with_reducible refine wbd (ld1 (by assumption) (srch_first _ _ _ hP)) ?_) | with_reducible refine wand (by omega) (by omega) ?_)
    obtain ⟨S, hS⟩ : ∃ S, S = own &&& sideN R C P false := ⟨_, rfl⟩
    rw [← hS] at hS9 ⊢
    have hSo : ∀ j, S.testBit j = true → own.testBit j = true := fun j hj => by
      rw [hS, Nat.testBit_and, Bool.and_eq_true] at hj; exact hj.1
    refine loopW (fun m' st => ∃ X w : Nat, st = impl_search_joins.st0 (.ptr s 0) (.int .i64 (own : Int)) (.int .i64 (P : Int)) (.int .i64 (X : Int)) (.int .i64 (w : Int)) h ∧ X < 2 ^ 9 ∧ (∀ j, w.testBit j = true → X.testBit j = true) ∧ (∀ j, X.testBit j = true → own.testBit j = true) ∧
      (∀ j, S.testBit j = true → X.testBit j = true) ∧ (∀ j, X.testBit j = true → Reach (masksN R C) (S ||| own) S j) ∧ (∀ k j, X.testBit k = true → w.testBit k = false → Adj (masksN R C) k j → own.testBit j = true → X.testBit j = true) ∧ m' = (512 - X) + (if w = 0 then 0 else 1)) ?_ lf (512 - S + (if S = 0 then 0 else 1)) _ (by split <;> omega)
      ⟨S, S, rfl, hS9, fun _ h => h, hSo, fun _ h => h, fun j hj => .start hj (by rw [Nat.testBit_or, hj]; rfl), fun k j h1 h2 _ _ => (by rw [h1] at h2; cases h2), rfl⟩
    rintro n1 m1 st ⟨X, w, rfl, hX, hw, hXo, hSX, hXr, hc, hm⟩ next
    rw [impl_search_joins.body0_eq]
    unfold impl_search_joins.body0
    simp only [env_lf, env_bin]
    by_cases e : w = 0
    · subst e
      repeat (first | with_reducible refine wF ?_ | with_reducible refine wptr ?_ | (with_reducible refine wbd (fs2 _) ?_) | (with_reducible refine wia3 (by omega) ?_) | (with_reducible refine wbd (ld1 (by assumption) (srch_last _ _ _ hP)) ?_) | with_reducible refine wand (by omega) (by omega) ?_ | with_reducible refine wneqF (by omega) ?_ | rw [kLoop_exit] | rw [impl_search_joins.after0_se0_0_1_2_7_8_21] | simp only [env_C, env_g, env_lf, env_pick, env_alloc, env_box, env_build, env_buildSlice, env_load, env_store, env_ptr, env_bin, env_un, env_conv, env_make, env_slice, env_fieldAddr, env_field, env_indexAddr, env_index, env_extract, env_len, env_append, env_max, env_min, env_makeMap, env_lookup, env_update])
      have hXg : X = growN (masksN R C) own (sideN R C P false) := by
        rw [grown_is hS9 hown9 hSX hXr fun k j h1 h2 h3 => hc k j h1 (Nat.zero_testBit _) h2 h3, hS, Nat.and_comm]
        exact grown_in
      unfold joinsN
      rw [← hXg]
      refine wneq (fun e => ?_) (fun e => ?_)
      · repeat (first | with_reducible refine wrB ?_)
        refine W.ret ⟨?_, rfl⟩
        rw [decide_eq_false (by omega)]; rfl
      · repeat (first | with_reducible refine wrB ?_)
        refine W.ret ⟨?_, rfl⟩
        rw [decide_eq_true (by omega)]; rfl
    · have hw9 : w < 2 ^ 9 := Nat.lt_of_le_of_lt (sub_le hw) hX
      have hwc : ∀ k, w.testBit k = true → k < R * C := fun k hk => bit_lt hown (hXo k (hw k hk))
      repeat (first | with_reducible refine wT ?_ | with_reducible refine wneqT (by omega) ?_)
      refine loopW (fun m' st => ∃ wd r : Nat, st = impl_search_joins.st1 (.ptr s 0) (.int .i64 (own : Int)) (.int .i64 (P : Int)) (.int .i64 (X : Int)) (.int .i64 (wd : Int)) (.int .i64 (r : Int)) h ∧ wd < 2 ^ 9 ∧ r < 2 ^ 9 ∧ (∀ j, r.testBit j = true → w.testBit j = true) ∧
        (∀ j, wd.testBit j = true ↔ ∃ k, w.testBit k = true ∧ r.testBit k = false ∧ (nearV R C k).testBit j = true) ∧ m' = r) ?_ lf w _ (by omega) ⟨0, w, rfl, by decide, hw9, fun _ h => h, fun j => ⟨fun h => (by rw [Nat.zero_testBit] at h; cases h), fun ⟨k, h1, h2, _⟩ => (by rw [h1] at h2; cases h2)⟩, rfl⟩
      rintro n2 m2 st ⟨wd, r, rfl, hwd, hr, hrw, hwb, hm2⟩ next2
      rw [impl_search_joins.body1_eq]
      unfold impl_search_joins.body1
      simp only [env_C, env_load, env_ptr, env_bin, env_fieldAddr, env_indexAddr]
      by_cases e2 : r = 0
      · subst e2
        have hal : wd &&& own < 2 ^ 9 := Nat.and_lt_two_pow _ hown9
        have hml : minusN (wd &&& own) X < 2 ^ 9 := minusN_lt hal
        repeat (first | with_reducible refine wF ?_ | with_reducible refine wand (by omega) (by omega) ?_ | with_reducible refine wor (by omega) (by omega) ?_ | with_reducible refine wandNot (by omega) (by omega) ?_ | with_reducible refine wneqF (by omega) ?_ | rw [kLoop_exit] | rw [impl_search_joins.after1_se2_0_1_2_7_9_10_24] | simp only [env_C, env_g, env_lf, env_pick, env_alloc, env_box, env_build, env_buildSlice, env_load, env_store, env_ptr, env_bin, env_un, env_conv, env_make, env_slice, env_fieldAddr, env_field, env_indexAddr, env_index, env_extract, env_len, env_append, env_max, env_min, env_makeMap, env_lookup, env_update])
        obtain ⟨w', hw'⟩ : ∃ w', w' = minusN (wd &&& own) X := ⟨_, rfl⟩
        have hb : ∀ j, w'.testBit j = true ↔ (w.testBit j = true ∨ ∃ k, w.testBit k = true ∧ Adj (masksN R C) k j) ∧ own.testBit j = true ∧ X.testBit j = false := fun j => by
          have hwj : wd.testBit j = true ↔ (w.testBit j = true ∨ ∃ k, w.testBit k = true ∧ Adj (masksN R C) k j) := by
            rw [hwb]
            constructor
            · rintro ⟨k, h1, _, h2⟩
              rcases (nearV_bit hB (hwc k h1)).1 h2 with rfl | h3
              · exact .inl h1
              · exact .inr ⟨k, h1, h3⟩
            · rintro (h1 | ⟨k, h1, h3⟩)
              · exact ⟨j, h1, Nat.zero_testBit _, (nearV_bit hB (hwc j h1)).2 (.inl rfl)⟩
              · exact ⟨k, h1, Nat.zero_testBit _, (nearV_bit hB (hwc k h1)).2 (.inr h3)⟩
          rw [← hwj, hw', minusN_bit, Nat.testBit_and]; cases wd.testBit j <;> cases own.testBit j <;> cases X.testBit j <;> simp
        rw [← hw'] at hml ⊢
        have hor : X ||| w' < 2 ^ 9 := Nat.or_lt_two_pow hX hml
        have hle : X ≤ X ||| w' := Nat.left_le_or
        have hne : w' ≠ 0 → X ≠ X ||| w' := fun hz he => by
          obtain ⟨j, hj⟩ := bit_of_ne hz
          have h1 := ((hb j).1 hj).2.2
          rw [he, Nat.testBit_or, hj, Bool.or_true] at h1; cases h1
        refine next _ _ ?_ ⟨X ||| w', w', rfl, hor, fun j hj => by rw [Nat.testBit_or, hj, Bool.or_true], fun j hj => ?_, fun j hj => by rw [Nat.testBit_or, hSX j hj, Bool.true_or], ?_, ?_, rfl⟩
        · rw [hm, if_neg e]
          by_cases e' : w' = 0
          · rw [if_pos e']; omega
          · rw [if_neg e']; have := hne e'; omega
        · rw [Nat.testBit_or, Bool.or_eq_true] at hj
          rcases hj with hj | hj
          · exact hXo j hj
          · exact ((hb j).1 hj).2.1
        · intro j hj
          rw [Nat.testBit_or, Bool.or_eq_true] at hj
          rcases hj with hj | hj
          · exact hXr j hj
          · obtain ⟨h1 | ⟨k, h1, h2⟩, h3, h4⟩ := (hb j).1 hj
            · rw [hw j h1] at h4; cases h4
            · exact .step (hXr k (hw k h1)) h2 (by rw [Nat.testBit_or, h3, Bool.or_true])
        · intro k j h1 h2 h3 h4
          rw [Nat.testBit_or, h2, Bool.or_false] at h1
          rw [Nat.testBit_or]
          by_cases hk : w.testBit k = true
          · cases hx : X.testBit j with
            | true => rfl
            | false => rw [(hb j).2 ⟨.inr ⟨k, hk, h3⟩, h4, hx⟩]; rfl
          · rw [hc k j h1 (by simpa using hk) h3 h4]; rfl
      · have el := leastIn_W g lf hr e2 hbig ht n (by omega)
        obtain ⟨l1, l2, l3, l4⟩ := low_ok hr e2
        obtain ⟨d1, d2⟩ := f_drop hr e2
        have hlt := without_less hr e2
        have hwl := without_lt9 (k := lowN r) hr
        obtain ⟨k, hk⟩ : ∃ k, k = lowN r := ⟨_, rfl⟩
        rw [← hk] at el l1 l2 d2 hlt hwl
        have hnv := nearV_lt hB l2
        have hwr := hrw k l1
        repeat (first | with_reducible refine wT ?_ | with_reducible refine wptr ?_ | with_reducible refine wbd (by assumption) ?_ | (with_reducible refine wbd (fs0 _) ?_) | (with_reducible refine wia9 l2 ?_) | (with_reducible refine wbd (ld1 (by assumption) (srch_near _ _ _ _ l2)) ?_) | with_reducible refine wor (by omega) (by omega) ?_ | with_reducible refine wneqT (by omega) ?_ | dsimp only)
        refine next2 _ _ (hm2 ▸ hlt) ⟨_, _, rfl, Nat.or_lt_two_pow hwd hnv, hwl, fun j hj => ?_, fun j => ?_, rfl⟩
        · rw [without_bit, Bool.and_eq_true] at hj; exact hrw j hj.1
        · rw [Nat.testBit_or, Bool.or_eq_true, hwb]
          constructor
          · rintro (⟨i, h1, h2, h3⟩ | h1)
            · exact ⟨i, h1, by rw [without_bit, h2]; rfl, h3⟩
            · exact ⟨k, hwr, by rw [without_bit]; simp, h1⟩
          · rintro ⟨i, h1, h2, h3⟩
            by_cases hik : i = k
            · subst hik; exact .inr h3
            · rw [without_bit] at h2
              simp only [ne_eq, hik, not_false_eq_true, decide_true, Bool.and_true] at h2
              exact .inl ⟨i, h1, h2, h3⟩
  obtain ⟨_, _, e, rfl, rfl⟩ := this
  exact e

def whoN (R C a b : Nat) : Nat := if joinsN R C 1 a = true then 1 else if joinsN R C 2 b = true then 2 else 0

theorem joined_W {R C f a b t : Nat} (hB : BoardOf R C) (hp : Pos R C a b) (hbig : Big g) {h : PHeap} {s m : Nat} (hs : At h s (srchC R C m)) (ht : Tab64 g h) (N : Nat) (hN : 5 ≤ N) (hlf : 1000 < lf) :
    ∃ h', CL g lf N fn_impl_search_joined [.ptr s 0, stP f a b t] h = some (.int .i64 (whoN R C a b : Int), h') ∧ Keep h.length h h' := by
  obtain ⟨n, rfl⟩ : ∃ n, N = n + 1 := ⟨N - 1, by omega⟩
  have : W (CL g lf (n + 1) fn_impl_search_joined [.ptr s 0, stP f a b t] h) fun v h' => v = .int .i64 (whoN R C a b : Int) ∧ Keep h.length h h' := by
    rw [impl_search_joined.call_eq]
    unfold impl_search_joined.main
    simp only [env_lf, env_box]
    refine wboxS fun h1 id o1 k1 l1 => ?_
    have hs1 := hs.keep k1
    have e1 := joins_W g lf hB (P := 1) (.inl rfl) hp.1 hbig hs1 (ht.keep k1) n (by omega) hlf
    have e2 := joins_W g lf hB (P := 2) (.inr rfl) hp.2.1 hbig hs1 (ht.keep k1) n (by omega) hlf
    refine loopW (fun m' st => ∃ P : Nat, st = impl_search_joined.st0 (.ptr s 0) (.ptr id 0) (.int .i64 (P : Int)) h1 ∧ P + m' = 3 ∧ 1 ≤ P ∧ (2 ≤ P → joinsN R C 1 a = false) ∧ (3 ≤ P → joinsN R C 2 b = false)) ?_ lf 2 _ (by omega) ⟨1, rfl, rfl, by decide, by omega, by omega⟩
    rintro n1 m1 st ⟨P, rfl, hm, hP1, j1, j2⟩ next
    rw [impl_search_joined.body0_eq]
    unfold impl_search_joined.body0
    simp only [env_C, env_load, env_bin, env_fieldAddr, env_indexAddr]
    have hP : P = 1 ∨ P = 2 ∨ P = 3 := by omega
    rcases hP with rfl | rfl | rfl
    · cases hj : joinsN R C 1 a with
      | true =>
        rw [hj] at e1
        repeat (first | with_reducible refine wT ?_ | with_reducible refine wrI ?_ | with_reducible refine wbd (by assumption) ?_ | (with_reducible refine wbd (fSt0 _) ?_) | (with_reducible refine wia3 (by omega) ?_) | (with_reducible refine wbd (ld1 (by assumption) rfl) ?_) | with_reducible refine wleqT (by omega) ?_ | rw [kLoop_ret] | rw [impl_search_joined.K0_ret] | rw [impl_search_joined.top_sr_4] | dsimp only)
        exact W.ret ⟨by unfold whoN; rw [hj]; rfl, k1⟩
      | false =>
        rw [hj] at e1
        repeat (first | with_reducible refine wT ?_ | with_reducible refine wF ?_ | with_reducible refine wbd (by assumption) ?_ | (with_reducible refine wbd (fSt0 _) ?_) | (with_reducible refine wia3 (by omega) ?_) | (with_reducible refine wbd (ld1 (by assumption) rfl) ?_) | with_reducible refine wadd1 (by omega) ?_ | with_reducible refine wleqT (by omega) ?_ | dsimp only)
        exact next _ _ (show 1 < m1 by omega) ⟨2, rfl, rfl, by decide, fun _ => hj, by omega⟩
    · cases hj : joinsN R C 2 b with
      | true =>
        rw [hj] at e2
        repeat (first | with_reducible refine wT ?_ | with_reducible refine wrI ?_ | with_reducible refine wbd (by assumption) ?_ | (with_reducible refine wbd (fSt0 _) ?_) | (with_reducible refine wia3 (by omega) ?_) | (with_reducible refine wbd (ld1 (by assumption) rfl) ?_) | with_reducible refine wleqT (by omega) ?_ | rw [kLoop_ret] | rw [impl_search_joined.K0_ret] | rw [impl_search_joined.top_sr_4] | dsimp only)
        exact W.ret ⟨by unfold whoN; rw [j1 (by decide), hj]; rfl, k1⟩
      | false =>
        rw [hj] at e2
        repeat (first | with_reducible refine wT ?_ | with_reducible refine wF ?_ | with_reducible refine wbd (by assumption) ?_ | (with_reducible refine wbd (fSt0 _) ?_) | (with_reducible refine wia3 (by omega) ?_) | (with_reducible refine wbd (ld1 (by assumption) rfl) ?_) | with_reducible refine wadd1 (by omega) ?_ | with_reducible refine wleqT (by omega) ?_ | dsimp only)
        exact next _ _ (show 0 < m1 by omega) ⟨3, rfl, rfl, by decide, fun _ => j1 (by decide), fun _ => hj⟩
    · repeat (first | with_reducible refine wF ?_ | with_reducible refine wrI ?_ | with_reducible refine wleqF (by omega) ?_ | rw [kLoop_exit] | rw [impl_search_joined.after0_se0_0_3_5_7])
      exact W.ret ⟨by unfold whoN; rw [j1 (by decide), j2 (by decide)]; rfl, k1⟩
  obtain ⟨_, h', e, rfl, k⟩ := this
  exact ⟨h', e, k⟩

end Go.Proofs.YtmhflbomploidaaDoor

/- The program's search with its map: who wins what stands, and by which moves. -/
set_option maxRecDepth 20000
namespace Go.Proofs.YtmhflbomploidaaDoor
open Go Go.Ip G

/-- What may stand: free cells, stones of both, who is to move. -/
def Stands (R C f a b t : Nat) : Prop := Pos R C a b ∧ f < 2 ^ 9 ∧ (∀ k, f.testBit k = true ↔ k < R * C ∧ (a ||| b).testBit k = false) ∧ (t = 1 ∨ t = 2)
theorem Stands.put {R C f a b t k : Nat} (h : Stands R C f a b t) (hk : f.testBit k = true) : Stands R C (without f k) (putA t k a) (putB t k b) (3 - t) := by
  obtain ⟨h1, h2, h3, h4⟩ := h
  obtain ⟨k1, k2⟩ := (h3 k).1 hk
  refine ⟨h1.put k1 k2, without_lt9 h2, fun j => ?_, by omega⟩
  rw [without_bit, put_bit, Bool.and_eq_true, h3, Bool.or_eq_false_iff]
  simp only [decide_eq_true_eq, decide_eq_false_iff_not]
  exact ⟨fun ⟨⟨a1, a2⟩, a3⟩ => ⟨a1, a2, a3⟩, fun ⟨a1, a2, a3⟩ => ⟨⟨a1, a2⟩, a3⟩⟩

/-- Every entry of the map tells who wins. -/
def Memo (R C : Nat) (es : List (PV × PV)) : Prop := ∀ p ∈ es, ∃ f a b t, Stands R C f a b t ∧ p = (stP f a b t, .int .i64 (winN R C a b t : Int))

theorem eqK_st {f a b t f' a' b' t' : Nat} (h : eqK (stP f a b t) (stP f' a' b' t') = true) : f = f' ∧ a = a' ∧ b = b' ∧ t = t' := by
  simp only [eqK, stP, stC, eqL, eq1, Bool.and_eq_true, decide_eq_true_eq] at h
  omega
theorem memo_find {R C f a b t : Nat} : ∀ {es : List (PV × PV)} {v : PV}, Memo R C es → findM es (stP f a b t) = some v → v = .int .i64 (winN R C a b t : Int)
  | [], v, _, h => by cases h
  | p :: es, v, hm, h => by
    obtain ⟨f', a', b', t', _, rfl⟩ := hm p (by simp)
    unfold findM at h
    cases e : eqK (stP f' a' b' t') (stP f a b t) with
    | true =>
      rw [e] at h
      obtain ⟨_, rfl, rfl, rfl⟩ := eqK_st e
      cases h; rfl
    | false =>
      rw [e] at h
      exact memo_find (fun q hq => hm q (by simp [hq])) h
theorem memo_put {R C f a b t : Nat} (hs : Stands R C f a b t) : ∀ {es : List (PV × PV)}, Memo R C es → Memo R C (putM es (stP f a b t) (.int .i64 (winN R C a b t : Int)))
  | [], _ => fun p hp => by
    simp only [putM, List.mem_singleton] at hp
    exact ⟨f, a, b, t, hs, hp⟩
  | p :: es, hm => by
    obtain ⟨f', a', b', t', hs', rfl⟩ := hm p (by simp)
    have hr : Memo R C es := fun q hq => hm q (by simp [hq])
    unfold putM
    cases e : eqK (stP f' a' b' t') (stP f a b t) with
    | true =>
      obtain ⟨rfl, rfl, rfl, rfl⟩ := eqK_st e
      intro q hq
      rcases List.mem_cons.1 hq with rfl | hq
      · exact ⟨f', a', b', t', hs, rfl⟩
      · exact hr q hq
    | false =>
      intro q hq
      rcases List.mem_cons.1 hq with rfl | hq
      · exact ⟨f', a', b', t', hs', rfl⟩
      · exact memo_put hs hr q hq

/-! ### the keys -/
theorem keyedSt : keyedB Tryd.prog 58 = true := by kernel_rfl
theorem zeroInt : zero1 Tryd.prog 3 = some (.int .i64 0) := by kernel_rfl
theorem stU : Tryd.prog.underlying 58 = some (.struct (Tryd.prog.fieldsOf 58)) := by kernel_rfl
theorem stF : (Tryd.prog.fieldsOf 58).toList.map (fun f => (f.type, f.offset)) = [(56, 0), (3, 3)] := by kernel_rfl
theorem stN : (Tryd.prog.fieldsOf 58).all (·.name != "_") = true := by kernel_rfl
theorem stK : Tryd.prog.keyType 58 = true := by kernel_rfl
theorem tyIntU : Tryd.prog.underlying 3 = some (.int .i64) := by kernel_rfl
theorem ce1 : Tryd.prog.cellsOf 3 = 1 := by kernel_rfl
theorem ce3 : Tryd.prog.cellsOf 56 = 3 := by kernel_rfl
theorem ce4 : Tryd.prog.cellsOf 58 = 4 := by kernel_rfl
theorem tySz : Nat.ble 2 Tryd.prog.types.size = true := by kernel_rfl
theorem wf_small {x : Nat} (hx : x < 2 ^ 9) : (Lit.int .i64 (x : Int)).wf = true := by
  have h1 : IntKind.i64.min = -9223372036854775808 := by decide
  have h2 : IntKind.i64.max = 9223372036854775807 := by decide
  simp only [Lit.wf, h1, h2, Bool.and_eq_true, decide_eq_true_eq]
  omega
theorem lits_int {D x : Nat} (hx : x < 2 ^ 9) : Tryd.prog.keyLits (D + 1) 3 [.int .i64 (x : Int)] = some [.int .i64 (x : Int)] := by
  simp [Program.keyLits, tyIntU, wf_small hx]
theorem lits_arr {D x y z : Nat} (hx : x < 2 ^ 9) (hy : y < 2 ^ 9) (hz : z < 2 ^ 9) : Tryd.prog.keyLits (D + 2) 56 [.int .i64 (x : Int), .int .i64 (y : Int), .int .i64 (z : Int)] = some [.int .i64 (x : Int), .int .i64 (y : Int), .int .i64 (z : Int)] := by
  unfold Program.keyLits
  rw [tyA3]
  simp only [ce1, ce3, List.length_cons, List.length_nil, if_true]
  rw [show List.range 3 = [0, 1, 2] from rfl]
  simp [lits_int hx, lits_int hy, lits_int hz]
theorem lits_st {D f a b t : Nat} (hf : f < 2 ^ 9) (ha : a < 2 ^ 9) (hb : b < 2 ^ 9) (ht : t < 2 ^ 9) : ∃ L, Tryd.prog.keyLits (D + 3) 58 [.int .i64 (f : Int), .int .i64 (a : Int), .int .i64 (b : Int), .int .i64 (t : Int)] = some L := by
  unfold Program.keyLits
  rw [stU]
  simp only [ce4, List.length_cons, List.length_nil, stN, and_self, if_true]
  have hF := stF
  generalize Tryd.prog.fieldsOf 58 = fs at hF ⊢
  obtain ⟨L⟩ := fs
  match L, hF with
  | [f0, f1], hF =>
    simp only [List.map_cons, List.map_nil, List.cons.injEq, Prod.mk.injEq, and_true] at hF
    obtain ⟨⟨t0, o0⟩, t1, o1⟩ := hF
    refine ⟨[.int .i64 (f : Int), .int .i64 (a : Int), .int .i64 (b : Int), .int .i64 (t : Int)], ?_⟩
    simp [t0, o0, t1, o1, ce1, ce3, lits_arr hf ha hb, lits_int ht]
  | [], hF => simp at hF
  | [_], hF => simp at hF
  | _ :: _ :: _ :: _, hF => simp at hF
theorem isKey_st {R C f a b t : Nat} (hB : BoardOf R C) (hs : Stands R C f a b t) : isKeyP Tryd.prog 58 (stP f a b t) = true := by
  obtain ⟨hp, hf, _, ht⟩ := hs
  have l9 := hp.lt9 hB
  obtain ⟨D, hD⟩ : ∃ D, Tryd.prog.types.size + 1 = D + 3 := ⟨Tryd.prog.types.size - 2, by have := Nat.le_of_ble_eq_true tySz; omega⟩
  obtain ⟨L, hL⟩ := lits_st (D := D) hf l9.1 l9.2 (show t < 2 ^ 9 by omega)
  have hk : keyV (stP f a b t) = some (.agg #[.int .i64 (f : Int), .int .i64 (a : Int), .int .i64 (b : Int), .int .i64 (t : Int)]) := rfl
  have hfo : (Value.agg #[.int .i64 (f : Int), .int .i64 (a : Int), .int .i64 (b : Int), .int .i64 (t : Int)]).formed Tryd.prog 58 = true := by
    simp [Value.formed, stU, ce4]
  unfold isKeyP
  rw [hk]
  simp only [keyOf, stU, stK, hfo, Bool.and_self, if_true, hD, Value.cells, hL, Option.map_some, Option.isSome_some]
theorem keys_memo {R C : Nat} {es : List (PV × PV)} (hB : BoardOf R C) (hm : Memo R C es) {f a b t : Nat} (hs : Stands R C f a b t) : keysB Tryd.prog 58 es (stP f a b t) = true := by
  unfold keysB
  rw [keyedSt, isKey_st hB hs, Bool.and_self, Bool.true_and, List.all_eq_true]
  intro p hp
  obtain ⟨f', a', b', t', hs', rfl⟩ := hm p hp
  exact isKey_st hB hs'

theorem look_st {R C m : Nat} {es : List (PV × PV)} {h : PHeap} (hB : BoardOf R C) (hM : MapAt h m es) (hm : Memo R C es) {f a b t : Nat} (hs : Stands R C f a b t) :
    lookupP Tryd.prog 74 (.mapv m) (stP f a b t) true h = some (foundP true (.int .i64 0) (findM es (stP f a b t))) := by
  have hk := keys_memo hB hm hs
  have hma : mapAt h m = some es := by unfold mapAt; rw [show h[m]? = some (.mp es) from hM]
  simp only [lookupP, tyMp, hma, zeroInt, hk, cond_true]
theorem upd_st {R C m : Nat} {es : List (PV × PV)} {h : PHeap} (hB : BoardOf R C) (hM : MapAt h m es) (hm : Memo R C es) {f a b t : Nat} (hs : Stands R C f a b t) (x : Int) :
    updateP Tryd.prog 74 (.mapv m) (stP f a b t) (.int .i64 x) h = some (h.set m (.mp (putM es (stP f a b t) (.int .i64 x)))) := by
  have hk := keys_memo hB hm hs
  have hma : mapAt h m = some es := by unfold mapAt; rw [show h[m]? = some (.mp es) from hM]
  simp only [updateP, tyMp, hma, hk, PV.oneCell, Bool.and_self, cond_true]

/-- The search of a board: its tables, and its map, right in every entry. -/
def Sch (R C : Nat) (h : PHeap) (s m : Nat) : Prop := At h s (srchC R C m) ∧ ∃ es, MapAt h m es ∧ Memo R C es
theorem Sch.keep {R C s m : Nat} {h h' : PHeap} (hs : Sch R C h s m) (k : Keep h.length h h') : Sch R C h' s m := by
  obtain ⟨a, es, b, c⟩ := hs; exact ⟨a.keep k, es, b.keep k, c⟩
theorem Sch.ne {R C s m id : Nat} {h : PHeap} {l : List PV} (hs : Sch R C h s m) (a : At h id l) : id ≠ m := by
  obtain ⟨_, es, b, _⟩ := hs; exact a.ne b
theorem Sch.lt {R C s m : Nat} {h : PHeap} (hs : Sch R C h s m) : m < h.length := by
  obtain ⟨_, es, b, _⟩ := hs; exact b.lt
theorem Tab64.kb {g : Nat → PV} {R C s m : Nat} {h h' : PHeap} (t : Tab64 g h) (hs : Sch R C h s m) (k : KB m h h') : Tab64 g h' := fun id e => by
  have ho := t id e
  obtain ⟨_, es, b, _⟩ := hs
  rw [k.2 id (List.getElem?_eq_some_iff.1 ho).1 (fun e => by subst e; unfold MapAt at b; rw [ho] at b; cases b)]; exact ho
theorem Tab.kb {g : Nat → PV} {R C s m : Nat} {h h' : PHeap} (t : Tab g h) (hs : Sch R C h s m) (k : KB m h h') : Tab g h' := by
  obtain ⟨id, e, ho⟩ := t
  obtain ⟨_, es, b, _⟩ := hs
  exact ⟨id, e, by rw [k.2 id (List.getElem?_eq_some_iff.1 ho).1 (fun e => by subst e; unfold MapAt at b; rw [ho] at b; cases b)]; exact ho⟩

theorem who_win {R C a b t : Nat} (hB : BoardOf R C) (hp : Pos R C a b) : (whoN R C a b ≠ 0 → winN R C a b t = whoN R C a b) ∧ (whoN R C a b = 0 → joinsN R C 1 a = false ∧ joinsN R C 2 b = false) ∧ whoN R C a b ≤ 2 := by
  unfold whoN
  cases h1 : joinsN R C 1 a with
  | true => exact ⟨fun _ => win_first h1, fun h => by simp at h, by simp⟩
  | false =>
    cases h2 : joinsN R C 2 b with
    | true => exact ⟨fun _ => by rw [win_second hB hp h2]; rfl, fun h => by simp at h, by simp⟩
    | false => exact ⟨fun h => by simp at h, fun _ => ⟨rfl, rfl⟩, by simp⟩

theorem fr_put' {R C f a b t k : Nat} (hs : Stands R C f a b t) (hk : f.testBit k = true) : frN (R * C) (putA t k a) (putB t k b) + 1 ≤ frN (R * C) a b := by
  obtain ⟨k1, k2⟩ := (hs.2.2.1 k).1 hk; exact fr_put k1 k2

variable (g : Nat → PV) (lf n : Nat)

def WinOk (R C s m : Nat) (b : Nat) : Prop := ∀ (f a b' t N : Nat) (h : PHeap), frN (R * C) a b' ≤ b → Stands R C f a b' t → 2 * b + 8 ≤ N → Sch R C h s m → Tab64 g h →
  W (CL g lf N fn_impl_search_winner [.ptr s 0, stP f a b' t] h) fun v h' => v = .int .i64 (winN R C a b' t : Int) ∧ Sch R C h' s m ∧ KB m h h'

theorem solved_W {R C s m B : Nat} (hB : BoardOf R C) (hbig : Big g) (hlf : 1000 < lf) (ih : ∀ b, b < B → WinOk g lf R C s m b) {f a b t : Nat} (hfr : frN (R * C) a b ≤ B) (hst : Stands R C f a b t) (N : Nat) (hN : 2 * B + 7 ≤ N) {h : PHeap} (hs : Sch R C h s m) (ht : Tab64 g h) :
    W (CL g lf N fn_impl_search_solved [.ptr s 0, stP f a b t] h) fun v h' => v = .int .i64 (winN R C a b t : Int) ∧ Sch R C h' s m ∧ KB m h h' := by
  obtain ⟨n, rfl⟩ : ∃ n, N = n + 1 := ⟨N - 1, by omega⟩
  obtain ⟨hp, hf9, hfree, hT⟩ := id hst
  have h9 := hB.2.2.2.2
  have l9 := hp.lt9 hB
  obtain ⟨w1, w2, w3⟩ := who_win (t := t) hB hp
  rw [impl_search_solved.call_eq]
  unfold impl_search_solved.main
  simp only [env_C, env_lf, env_box, env_load, env_bin, env_fieldAddr, env_indexAddr]
  refine wboxS fun h1 id o1 k1 l1 => ?_
  have hs1 := hs.keep k1
  have ht1 := ht.keep k1
  obtain ⟨h2, e1, k2⟩ := joined_W g lf (f := f) (t := t) hB hp hbig hs1.1 ht1 n (by omega) hlf
  have hs2 := hs1.keep k2
  have ht2 := ht1.keep k2
  have o2 := o1.keep k2
  repeat (first | with_reducible refine wbd (by assumption) ?_ | (with_reducible refine wbd (ldS (by assumption)) ?_) | dsimp only)
  refine wneq (fun e => ?_) (fun e => ?_)
  · repeat (first | with_reducible refine wT ?_ | with_reducible refine wrI ?_)
    exact W.ret ⟨by rw [w1 (by omega)], hs2, k1.kb.trans k2.kb⟩
  · obtain ⟨j1, j2⟩ := w2 (by omega)
    have hwo := win_open (t := t) j1 j2
    have e3 : ∀ h, CL g lf n fn_impl_exchanged [.int .i64 (t : Int)] h = some (.int .i64 ((3 - t : Nat) : Int), h) := fun h => exchanged_W g lf n (by omega) h hT
    repeat (first | with_reducible refine wF ?_ | (with_reducible refine wbd (fSt0 _) ?_) | (with_reducible refine wia30 ?_) | (with_reducible refine wbd (ld1 (by assumption) rfl) ?_))
    refine loopW (fun m' st => ∃ (r : Nat) (h3 : PHeap), st = impl_search_solved.st0 (.ptr s 0) (.ptr id 0) (.int .i64 (r : Int)) h3 ∧ r < 2 ^ 9 ∧ (∀ k, r.testBit k = true → f.testBit k = true) ∧ (∀ k, f.testBit k = true → r.testBit k = false → winN R C (putA t k a) (putB t k b) (3 - t) ≠ t) ∧
      At h3 id (stC f a b t) ∧ Sch R C h3 s m ∧ Tab64 g h3 ∧ KB m h2 h3 ∧ m' = r) ?_ lf f _ (by omega) ⟨f, h2, rfl, hf9, fun _ h => h, fun k h1 h2 => (by rw [h1] at h2; cases h2), o2, hs2, ht2, KB.refl _ _, rfl⟩
    rintro n1 m1 st ⟨r, h3, rfl, hr, hrf, hno, o3, hs3, ht3, k3, hm⟩ next
    rw [impl_search_solved.body0_eq]
    unfold impl_search_solved.body0
    simp only [env_C, env_load, env_bin, env_fieldAddr]
    by_cases e4 : r = 0
    · subst e4
      have e3' := e3 h3
      repeat (first | with_reducible refine wF ?_ | with_reducible refine wrI ?_ | with_reducible refine wbd (by assumption) ?_ | (with_reducible refine wbd (fSt1 _) ?_) | (with_reducible refine wbd (ld1 (by assumption) rfl) ?_) | with_reducible refine wneqF (by omega) ?_ | rw [kLoop_exit] | rw [impl_search_solved.after0_se0_0_3_6_17] | dsimp only | simp only [env_C, env_g, env_lf, env_pick, env_alloc, env_box, env_build, env_buildSlice, env_load, env_store, env_ptr, env_bin, env_un, env_conv, env_make, env_slice, env_fieldAddr, env_field, env_indexAddr, env_index, env_extract, env_len, env_append, env_max, env_min, env_makeMap, env_lookup, env_update])
      refine W.ret ⟨?_, hs3, (k1.kb.trans k2.kb).trans k3⟩
      have hmv : moveB R C a b t = false := by
        cases hh : moveB R C a b t with
        | false => rfl
        | true =>
          obtain ⟨k, c1, c2, c3⟩ := moveB_iff.1 hh
          exact absurd c3 (hno k ((hfree k).2 ⟨c1, c2⟩) (Nat.zero_testBit _))
      rw [hwo, hmv]; rfl
    · have el := leastIn_W g lf hr e4 hbig ht3 n (by omega)
      obtain ⟨c1, c2, c3, c4⟩ := low_ok hr e4
      obtain ⟨d1, d2⟩ := f_drop hr e4
      have hlt := without_less hr e4
      have hwl := without_lt9 (k := lowN r) hr
      obtain ⟨k, hk⟩ : ∃ k, k = lowN r := ⟨_, rfl⟩
      rw [← hk] at el c1 c2 d2 hlt hwl
      have hkf := hrf k c1
      have hfr' := fr_put' hst hkf
      have hst' := hst.put hkf
      repeat (first | with_reducible refine wT ?_ | with_reducible refine wck plain_int ?_ | with_reducible refine wbd (by assumption) ?_ | (with_reducible refine wbd (fSt1 _) ?_) | (with_reducible refine wbd (ld1 (by assumption) rfl) ?_) | (with_reducible refine wbd (ldS (by assumption)) ?_) | (with_reducible refine wck plainS ?_) | with_reducible refine wneqT (by omega) ?_ | dsimp only)
      refine wcall (after_W g lf hf9 l9.1 l9.2 c2 hT n (by omega) h3) fun v h4 ⟨hv, k4⟩ => ?_
      subst hv
      have o4 := o3.keep k4
      have hs4 := hs3.keep k4
      have ht4 := ht3.keep k4
      repeat (first | with_reducible refine wck plain_int ?_ | (with_reducible refine wbd (ld1 (by assumption) rfl) ?_) | (with_reducible refine wbd (ldS (by assumption)) ?_) | (with_reducible refine wck plainS ?_) | dsimp only)
      refine wcall (ih (B - 1) (by omega) _ _ _ _ n h4 (by omega) hst' (by omega) hs4 ht4) fun v h5 ⟨hv, hs5, k5⟩ => ?_
      subst hv
      have o5 := o4.kb k5 (hs4.ne o4)
      have ht5 := ht4.kb hs4 k5
      repeat (first | with_reducible refine wck plain_int ?_ | (with_reducible refine wbd (ld1 (by assumption) rfl) ?_) | (with_reducible refine wbd (ldS (by assumption)) ?_) | (with_reducible refine wck plainS ?_) | dsimp only)
      refine weql (fun e5 => ?_) (fun e5 => ?_)
      · repeat (first | with_reducible refine wT ?_ | with_reducible refine wrI ?_ | (with_reducible refine wbd (fSt1 _) ?_) | (with_reducible refine wbd (ld1 (by assumption) rfl) ?_) | rw [kLoop_ret] | rw [impl_search_solved.K0_ret] | rw [impl_search_solved.top_sr_4])
        refine W.ret ⟨?_, hs5, ((k1.kb.trans k2.kb).trans k3).trans (k4.kb.trans k5)⟩
        obtain ⟨q1, q2⟩ := (hfree k).1 hkf
        have hmv : moveB R C a b t = true := moveB_iff.2 ⟨k, q1, q2, by omega⟩
        rw [hwo, hmv]; rfl
      · repeat (first | with_reducible refine wF ?_ | with_reducible refine wbd (by assumption) ?_)
        refine next _ _ (hm ▸ hlt) ⟨_, h5, rfl, hwl, fun j hj => ?_, fun j hj1 hj2 => ?_, o5, hs5, ht5, k3.trans (k4.kb.trans k5), rfl⟩
        · rw [without_bit, Bool.and_eq_true] at hj; exact hrf j hj.1
        · by_cases hjk : j = k
          · subst hjk; omega
          · rw [without_bit] at hj2
            simp only [ne_eq, hjk, not_false_eq_true, decide_true, Bool.and_true] at hj2
            exact hno j hj1 hj2

theorem sWinner_W {R C s m : Nat} (hB : BoardOf R C) (hbig : Big g) (hlf : 1000 < lf) (B : Nat) : WinOk g lf R C s m B := by
  induction B using Nat.strongRecOn with
  | _ B ih =>
  intro f a b t N h hfr hst hN hs ht
  obtain ⟨n, rfl⟩ : ∃ n, N = n + 1 := ⟨N - 1, by omega⟩
  rw [impl_search_winner.call_eq]
  unfold impl_search_winner.main
  simp only [env_C, env_box, env_load, env_ptr, env_un, env_fieldAddr, env_extract, env_lookup, env_update]
  refine wboxS fun h1 id o1 k1 l1 => ?_
  have hs1 := hs.keep k1
  have ht1 := ht.keep k1
  obtain ⟨sa, es, ma, mm⟩ := _root_.id hs1
  have hlook := look_st hB ma mm hst
  repeat (first | with_reducible refine wptr ?_ | with_reducible refine wbd (by assumption) ?_ | (with_reducible refine wbd (fs3 _) ?_) | (with_reducible refine wbd (ldS (by assumption)) ?_) | (with_reducible refine wbd (ldM (by assumption) (srch_map _ _ _)) ?_) | dsimp only)
  cases hfd : findM es (stP f a b t) with
  | some v =>
    have hv := memo_find mm hfd
    subst hv
    refine wx0 ?_
    refine wx1 ?_
    repeat (first | with_reducible refine wF ?_ | with_reducible refine wnT ?_ | with_reducible refine wrI ?_)
    exact W.ret ⟨rfl, hs1, k1.kb⟩
  | none =>
    refine wx0 ?_
    refine wx1 ?_
    repeat (first | with_reducible refine wT ?_ | with_reducible refine wnF ?_ | (with_reducible refine wbd (ldS (by assumption)) ?_))
    refine wcall (solved_W g lf hB hbig hlf ih hfr hst n (by omega) hs1 ht1) fun v h2 ⟨hv, hs2, k2⟩ => ?_
    subst hv
    have o2 := o1.kb k2 (hs1.ne o1)
    obtain ⟨sa2, es2, ma2, mm2⟩ := _root_.id hs2
    repeat (first | with_reducible refine wptr ?_ | (with_reducible refine wbd (fs3 _) ?_) | (with_reducible refine wbd (ldS (by assumption)) ?_) | (with_reducible refine wbd (ldM (by assumption) (srch_map _ _ _)) ?_) | dsimp only)
    refine wbd (upd_st hB ma2 mm2 hst _) ?_
    have ma3 : MapAt (h2.set m (.mp (putM es2 (stP f a b t) (.int .i64 (winN R C a b t : Int))))) m (putM es2 (stP f a b t) (.int .i64 (winN R C a b t : Int))) := by
      unfold MapAt; rw [List.getElem?_set_self ma2.lt]
    have k3 : KB m h2 (h2.set m (.mp (putM es2 (stP f a b t) (.int .i64 (winN R C a b t : Int))))) := ⟨by simp, fun i _ hn => List.getElem?_set_ne (by omega)⟩
    generalize h2.set m (.mp (putM es2 (stP f a b t) (.int .i64 (winN R C a b t : Int)))) = h3 at ma3 k3 ⊢
    have sa3 := sa2.kb k3 (sa2.ne ma2)
    repeat (first | with_reducible refine wrI ?_ | with_reducible refine wck plain_map ?_ | (with_reducible refine wbd (ldM (by assumption) (srch_map _ _ _)) ?_))
    exact W.ret ⟨rfl, ⟨sa3, _, ma3, memo_put hst mm2⟩, (k1.kb.trans k2).trans k3⟩

end Go.Proofs.YtmhflbomploidaaDoor

/- The program's search: made for a board, begun at a position; the moves by which one wins. -/
set_option maxRecDepth 20000
namespace Go.Proofs.YtmhflbomploidaaDoor
open Go Go.Ip G

variable (g : Nat → PV) (lf n : Nat)

/-! ### a search is made -/
def slotV (R C i p j : Nat) : Nat :=
  if j < 9 then (if j < i then nearV R C j else 0) else if j = 10 ∧ 2 ≤ p then sideN R C 1 false else if j = 11 ∧ 3 ≤ p then sideN R C 2 false else if j = 13 ∧ 2 ≤ p then sideN R C 1 true else if j = 14 ∧ 3 ≤ p then sideN R C 2 true else 0
def fillC (R C m i p : Nat) : List PV := ((List.range 15).map (slotV R C i p)).map (fun x : Nat => .int .i64 (x : Int)) ++ [.mapv m]
theorem fillC_length (R C m i p : Nat) : (fillC R C m i p).length = 16 := by simp [fillC]
theorem fill_done (R C m : Nat) : fillC R C m (R * C) 3 = srchC R C m := by
  have hn : ∀ j ∈ List.range 9, slotV R C (R * C) 3 j = nearV R C j := fun j hj => by
    have hj := List.mem_range.1 hj
    unfold slotV nearV
    rw [if_pos hj]
    by_cases h : j < R * C <;> simp [h]
  unfold fillC srchC srchV
  rw [show List.range 15 = List.range 9 ++ [9, 10, 11, 12, 13, 14] from rfl, List.map_append, List.map_congr_left hn]
  rfl
theorem fill_near {R C m i p : Nat} (hi : i < 9) : (fillC R C m i p).set (0 + i) (.int .i64 (nearV R C i : Int)) = fillC R C m (i + 1) p := by
  unfold fillC
  rw [Nat.zero_add, List.set_append_left _ _ (by simp; omega), ← List.map_set]
  congr 2
  apply List.ext_getElem (by simp)
  intro j h1 h2
  simp only [List.getElem_set, List.getElem_map, List.getElem_range]
  unfold slotV
  by_cases e : i = j
  · subst e; rw [if_pos rfl, if_pos hi, if_pos (by omega)]
  · rw [if_neg e]
    by_cases h9 : j < 9
    · rw [if_pos h9, if_pos h9]
      by_cases h : j < i
      · rw [if_pos h, if_pos (by omega)]
      · rw [if_neg h, if_neg (by omega)]
    · rw [if_neg h9, if_neg h9]
theorem fill_one (R C m i : Nat) : ((fillC R C m i 1).set (9 + 1) (.int .i64 (sideN R C 1 false : Int))).set (12 + 1) (.int .i64 (sideN R C 1 true : Int)) = fillC R C m i 2 := by rfl
theorem fill_two (R C m i : Nat) : ((fillC R C m i 2).set (9 + 2) (.int .i64 (sideN R C 2 false : Int))).set (12 + 2) (.int .i64 (sideN R C 2 true : Int)) = fillC R C m i 3 := by rfl
theorem bldS (m : Nat) : buildP Tryd.prog 77 [(3, .mapv m)] = some (.agg (fillC 1 1 m 0 1)) := by kernel_rfl
theorem fill_zero (R C m : Nat) : fillC 1 1 m 0 1 = fillC R C m 0 1 := by
  unfold fillC
  congr 2

theorem wmkM {Q : PV → PHeap → Prop} {h : PHeap} {F : PV × PHeap → Res} (hf : ∀ h' m, MapAt h' m [] → Keep h.length h h' → h.length ≤ m → W (F (.mapv m, h')) Q) : W ((makeMapP none h).bind F) Q :=
  hf _ _ (by unfold MapAt; simp) (Keep.append _ _ _ (Nat.le_refl _)) (Nat.le_refl _)

theorem newSearch_W {R C : Nat} (hB : BoardOf R C) (N : Nat) (hN : 7 ≤ N) (hlf : 1000 < lf) {h : PHeap} (ht : Tab g h) :
    W (CL g lf N fn_impl_newSearch [.int .i64 (R : Int), .int .i64 (C : Int)] h) fun v h' => ∃ s m, v = .ptr s 0 ∧ Sch R C h' s m ∧ Keep h.length h h' ∧ h.length ≤ s ∧ h.length ≤ m := by
  obtain ⟨n, rfl⟩ : ∃ n, N = n + 1 := ⟨N - 1, by omega⟩
  obtain ⟨b1, b2, b3, b4, h9⟩ := id hB
  rw [impl_newSearch.call_eq]
  unfold impl_newSearch.main
  simp only [env_lf, env_box, env_build, env_bin, env_makeMap]
  refine wmkM fun h1 m ma k1 lm => ?_
  refine wbd (bldS m) ?_
  refine wnew (l := fillC 1 1 m 0 1) (by rfl) fun h2 s o2 k2 ls => ?_
  dsimp only at k2 ls ⊢
  rw [fill_zero R C] at o2
  have ma2 := ma.keep k2
  have kk := k1.trans (k2.mono k1.1)
  have lss : h.length ≤ s := Nat.le_trans k1.1 ls
  have hRC : R * C < 4611686018427387904 := by omega
  repeat (first | with_reducible refine wmulN (by omega) ?_)
  refine loopW (fun m' st => ∃ (i : Nat) (h3 : PHeap), st = impl_newSearch.st0 (.int .i64 (R : Int)) (.int .i64 (C : Int)) (.ptr s 0) (.int .i64 ((R * C : Nat) : Int)) (.int .i64 (i : Int)) h3 ∧ i + m' = R * C ∧ At h3 s (fillC R C m i 1) ∧ MapAt h3 m [] ∧ Keep h.length h h3) ?_ lf (R * C) _ (by omega) ⟨0, h2, rfl, by omega, o2, ma2, kk⟩
  rintro n1 m1 st ⟨i, h3, rfl, him, o3, ma3, k3⟩ next
  rw [impl_newSearch.body0_eq]
  unfold impl_newSearch.body0
  simp only [env_C, env_store, env_ptr, env_bin, env_fieldAddr, env_indexAddr]
  cases m1 with
  | succ m1 =>
    have hi : i < 9 := by omega
    have hsl := shl_lt hi
    have hnv : wideN R C (1 <<< i) = nearV R C i := by unfold nearV; rw [if_pos (by omega)]
    obtain ⟨h4, e4, k4⟩ := withNear_calls g lf b1 b2 b3 b4 h9 hsl n (by omega) (by omega) (ht.keep k3)
    have o4 := o3.keep k4
    rw [hnv] at e4
    repeat (first | with_reducible refine wT ?_ | with_reducible refine wptr ?_ | with_reducible refine wbd (by assumption) ?_ | (with_reducible refine wbd (fs0 _) ?_) | (with_reducible refine wia9 hi ?_) | with_reducible refine wshl (by omega) ?_ | with_reducible refine wlssT (by omega) ?_ | dsimp only)
    refine wst1 o4 (by rw [fillC_length]; omega) fun h5 o5 k5 => ?_
    rw [fill_near hi] at o5
    have ma5 := (ma3.keep k4).kb k5 (o4.ne (ma3.keep k4)).symm
    repeat (first | with_reducible refine wadd1 (by omega) ?_)
    exact next _ _ (Nat.lt_succ_self m1) ⟨i + 1, h5, rfl, by omega, o5, ma5, (k3.trans (k4.mono k3.1)).kbs (Nat.le_refl _) k5 lss⟩
  | zero =>
    have hiR : i = R * C := by omega
    subst hiR
    repeat (first | with_reducible refine wF ?_ | with_reducible refine wlssF (by omega) ?_ | rw [kLoop_exit] | rw [impl_newSearch.after0_se0_0_1_5_13_14_15] | simp only [env_C, env_g, env_lf, env_pick, env_alloc, env_box, env_build, env_buildSlice, env_load, env_store, env_ptr, env_bin, env_un, env_conv, env_make, env_slice, env_fieldAddr, env_field, env_indexAddr, env_index, env_extract, env_len, env_append, env_max, env_min, env_makeMap, env_lookup, env_update])
    refine loopW (fun m' st => ∃ (P : Nat) (h4 : PHeap), st = impl_newSearch.st1 (.int .i64 (R : Int)) (.int .i64 (C : Int)) (.ptr s 0) (.int .i64 (P : Int)) h4 ∧ P + m' = 3 ∧ 1 ≤ P ∧ At h4 s (fillC R C m (R * C) P) ∧ MapAt h4 m [] ∧ Keep h.length h h4) ?_ lf 2 _ (by omega) ⟨1, h3, rfl, rfl, by decide, o3, ma3, k3⟩
    rintro n2 m2 st ⟨P, h4, rfl, hPm, hP1, o4, ma4, k4⟩ next2
    have hP : P = 1 ∨ P = 2 ∨ P = 3 := by omega
    have e1 := fun h => sidesOf_W g lf hB (P := 1) (.inl rfl) n (by omega) hlf h
    have e2 := fun h => sidesOf_W g lf hB (P := 2) (.inr rfl) n (by omega) hlf h
    rw [impl_newSearch.body1_eq]
    unfold impl_newSearch.body1
    simp only [env_C, env_store, env_ptr, env_bin, env_fieldAddr, env_indexAddr, env_extract]
    rcases hP with rfl | rfl | rfl
    · have e1' := e1 h4
      repeat (first | with_reducible refine wT ?_ | with_reducible refine wx0 ?_ | with_reducible refine wx1 ?_ | with_reducible refine wptr ?_ | with_reducible refine wbd (by assumption) ?_ | (with_reducible refine wbd (fs1 _) ?_) | (with_reducible refine wbd (fs2 _) ?_) | (with_reducible refine wia3 (by omega) ?_) | with_reducible refine wleqT (by omega) ?_ | dsimp only)
      refine wst1 o4 (by rw [fillC_length]; decide) fun h5 o5 k5 => ?_
      repeat (first | (with_reducible refine wia3 (by omega) ?_))
      refine wst1 o5 (by rw [List.length_set, fillC_length]; decide) fun h6 o6 k6 => ?_
      rw [fill_one] at o6
      repeat (first | with_reducible refine wadd1 (by omega) ?_)
      exact next2 _ _ (show 1 < m2 by omega) ⟨2, h6, rfl, rfl, by decide, o6, (ma4.kb k5 (o4.ne ma4).symm).kb k6 (o4.ne ma4).symm, (k4.kbs (Nat.le_refl _) k5 lss).kbs (Nat.le_refl _) k6 lss⟩
    · have e2' := e2 h4
      repeat (first | with_reducible refine wT ?_ | with_reducible refine wx0 ?_ | with_reducible refine wx1 ?_ | with_reducible refine wptr ?_ | with_reducible refine wbd (by assumption) ?_ | (with_reducible refine wbd (fs1 _) ?_) | (with_reducible refine wbd (fs2 _) ?_) | (with_reducible refine wia3 (by omega) ?_) | with_reducible refine wleqT (by omega) ?_ | dsimp only)
      refine wst1 o4 (by rw [fillC_length]; decide) fun h5 o5 k5 => ?_
      repeat (first | (with_reducible refine wia3 (by omega) ?_))
      refine wst1 o5 (by rw [List.length_set, fillC_length]; decide) fun h6 o6 k6 => ?_
      rw [fill_two] at o6
      repeat (first | with_reducible refine wadd1 (by omega) ?_)
      exact next2 _ _ (show 0 < m2 by omega) ⟨3, h6, rfl, rfl, by decide, o6, (ma4.kb k5 (o4.ne ma4).symm).kb k6 (o4.ne ma4).symm, (k4.kbs (Nat.le_refl _) k5 lss).kbs (Nat.le_refl _) k6 lss⟩
    · repeat (first | with_reducible refine wF ?_ | with_reducible refine wrP ?_ | with_reducible refine wleqF (by omega) ?_ | rw [kLoop_exit] | rw [impl_newSearch.after1_se2_0_1_5_7_29])
      rw [fill_done] at o4
      exact W.ret ⟨s, m, rfl, ⟨o4, [], ma4, fun p hp => by cases hp⟩, k4, lss, Nat.le_trans (Nat.le_refl _) lm⟩

/-! ### where it begins -/
theorem bldSt (t : Nat) : buildP Tryd.prog 58 [(1, .int .i64 (t : Int))] = some (stP 0 0 0 t) := by kernel_rfl
theorem standingOf_W {xs : List Int} {p : PV} {h : PHeap} (hp : IntSl .i64 h p xs) (hl : xs.length ≤ 20) (t : Nat) (N : Nat) (hN : 2 ≤ N) (hlf : 1000 < lf) :
    W (CL g lf N fn_impl_standingOf [p, .int .i64 (t : Int)] h) fun v h' => v = stP (setL xs 0) (setL xs 1) (setL xs 2) t ∧ Keep h.length h h' := by
  obtain ⟨n, rfl⟩ : ∃ n, N = n + 1 := ⟨N - 1, by omega⟩
  rw [impl_standingOf.call_eq]
  unfold impl_standingOf.main
  simp only [env_lf, env_alloc, env_build, env_store]
  refine walS fun h1 id1 o1 k1 l1 => ?_
  refine wbd (bldSt t) ?_
  dsimp only
  refine walS fun h2 id2 o2 k2 l2 => ?_
  dsimp only
  have o1' := o1.keep k2
  have hne : id1 ≠ id2 := by have := o1.lt; omega
  refine wstS o2 fun h3 o3 k3 => ?_
  have o13 := o1'.kb k3 hne
  have kk : Keep h.length h h3 := (k1.trans (k2.mono k1.1)).kbs (Nat.le_refl _) k3 (Nat.le_trans k1.1 l2)
  have ll2 : h.length ≤ id2 := Nat.le_trans k1.1 l2
  refine loopW (fun m' st => ∃ (P u v w : Nat) (h4 : PHeap), st = impl_standingOf.st0 p (.ptr id1 0) (.ptr id2 0) (.int .i64 (P : Int)) h4 ∧ P + m' = 3 ∧ At h4 id2 (stC u v w t) ∧ At h4 id1 (stC 0 0 0 0) ∧ Keep h.length h h4 ∧ (1 ≤ P → u = setL xs 0) ∧ (2 ≤ P → v = setL xs 1) ∧ (3 ≤ P → w = setL xs 2)) ?_ lf 3 _ (by omega) ⟨0, 0, 0, 0, h3, rfl, rfl, o3, o13, kk, by omega, by omega, by omega⟩
  rintro n1 m1 st ⟨P, u, v, w, h4, rfl, hPm, o4, o14, k4, hu, hv, hw⟩ next
  have hP : P = 0 ∨ P = 1 ∨ P = 2 ∨ P = 3 := by omega
  have hp4 := hp.keep k4
  have e0 := setOf_W g lf ((0 : Nat) : Int) hp4 hl n (by omega) hlf
  have e1 := setOf_W g lf ((1 : Nat) : Int) hp4 hl n (by omega) hlf
  have e2 := setOf_W g lf ((2 : Nat) : Int) hp4 hl n (by omega) hlf
  rw [impl_standingOf.body0_eq]
  unfold impl_standingOf.body0
  simp only [env_C, env_store, env_bin, env_fieldAddr, env_indexAddr]
  rcases hP with rfl | rfl | rfl | rfl
  · repeat (first | with_reducible refine wT ?_ | with_reducible refine wbd (by assumption) ?_ | (with_reducible refine wbd (fSt0 _) ?_) | (with_reducible refine wia3 (by omega) ?_) | with_reducible refine wlssT (by omega) ?_ | dsimp only)
    refine wst1 o4 (show 0 + 0 < 4 by decide) fun h5 o5 k5 => ?_
    repeat (first | with_reducible refine wadd1 (by omega) ?_)
    exact next _ _ (show 2 < m1 by omega) ⟨1, setL xs 0, v, w, h5, rfl, rfl, o5, o14.kb k5 hne, k4.kbs (Nat.le_refl _) k5 ll2, fun _ => rfl, by omega, by omega⟩
  · repeat (first | with_reducible refine wT ?_ | with_reducible refine wbd (by assumption) ?_ | (with_reducible refine wbd (fSt0 _) ?_) | (with_reducible refine wia3 (by omega) ?_) | with_reducible refine wlssT (by omega) ?_ | dsimp only)
    refine wst1 o4 (show 0 + 1 < 4 by decide) fun h5 o5 k5 => ?_
    repeat (first | with_reducible refine wadd1 (by omega) ?_)
    exact next _ _ (show 1 < m1 by omega) ⟨2, u, setL xs 1, w, h5, rfl, rfl, o5, o14.kb k5 hne, k4.kbs (Nat.le_refl _) k5 ll2, fun _ => hu (by decide), fun _ => rfl, by omega⟩
  · repeat (first | with_reducible refine wT ?_ | with_reducible refine wbd (by assumption) ?_ | (with_reducible refine wbd (fSt0 _) ?_) | (with_reducible refine wia3 (by omega) ?_) | with_reducible refine wlssT (by omega) ?_ | dsimp only)
    refine wst1 o4 (show 0 + 2 < 4 by decide) fun h5 o5 k5 => ?_
    repeat (first | with_reducible refine wadd1 (by omega) ?_)
    exact next _ _ (show 0 < m1 by omega) ⟨3, u, v, setL xs 2, h5, rfl, rfl, o5, o14.kb k5 hne, k4.kbs (Nat.le_refl _) k5 ll2, fun _ => hu (by decide), fun _ => hv (by decide), fun _ => rfl⟩
  · repeat (first | with_reducible refine wF ?_ | (with_reducible refine wbd (ldS (by assumption)) ?_) | with_reducible refine wlssF (by omega) ?_ | rw [kLoop_exit] | rw [impl_standingOf.after0_se0_0_4_5_9_10] | simp only [env_C, env_g, env_lf, env_pick, env_alloc, env_box, env_build, env_buildSlice, env_load, env_store, env_ptr, env_bin, env_un, env_conv, env_make, env_slice, env_fieldAddr, env_field, env_indexAddr, env_index, env_extract, env_len, env_append, env_max, env_min, env_makeMap, env_lookup, env_update])
    refine wstS o14 fun h5 o5 k5 => ?_
    repeat (first | (with_reducible refine wbd (ldS (by assumption)) ?_))
    exact W.ret ⟨by rw [hu (by decide), hv (by decide), hw (by decide)], k4.kbs (Nat.le_refl _) k5 l1⟩

theorem stands_of {R C T : Nat} {xs : List Int} (hS : Sides (R : Int) (C : Int) R C xs) (hT : T = 1 ∨ T = 2) : Stands R C (setL xs 0) (setL xs 1) (setL xs 2) T := by
  refine ⟨pos_sets hS, set_lt9 hS 0, fun k => ?_, hT⟩
  rw [setL_bit]
  constructor
  · intro hk
    have hkl := set_in hS (setL_bit.2 hk)
    exact ⟨hkl, (free_bit hS hkl).2 hk⟩
  · rintro ⟨h1, h2⟩; exact (free_bit hS h1).1 h2

end Go.Proofs.YtmhflbomploidaaDoor

/- The program's chapter 3: MoveOk, Played, WinnerOf, WinningCells and LinePlayed compute what the model's do. -/
set_option maxRecDepth 20000
namespace Go.Proofs.YtmhflbomploidaaDoor
open Go Go.Ip G

variable (g : Nat → PV) (lf n : Nat)

/-! ### moves -/
/-! ### who wins -/
theorem winnerOk (hbig : Big g) (hlf : 1000 < lf) : WinnerOk g lf := by
  intro N hN r c t xs p h ht hp hl hf
  obtain ⟨n, rfl⟩ : ∃ n, N = n + 1 := ⟨N - 1, by omega⟩
  have hpos := positionOk_N g lf n (by omega) r c hp (by omega) hf
  have hplay := playerOk_W g lf n (by omega) h t
  have : W (CL g lf (n + 1) fn_impl_WinnerOf [.int .i64 r, .int .i64 c, p, .int .i64 t] h) fun v h' => v = .int .i64 (winL r c xs t) ∧ Keep h.length h h' := by
    rw [impl_WinnerOf.call_eq]
    unfold impl_WinnerOf.main
    simp only [env_C, env_pick, env_un]
    cases hb : posB r c xs with
    | false =>
      rw [hb] at hpos
      repeat (first | with_reducible refine wT ?_ | with_reducible refine wg0 rfl ?_ | with_reducible refine wpT ?_ | with_reducible refine wnF ?_ | with_reducible refine wsm ?_ | with_reducible refine wrI ?_ | with_reducible refine wbd (by assumption) ?_ | dsimp only)
      exact W.ret ⟨by rw [winL_none (.inl hb)], Keep.refl _ _⟩
    | true =>
      rw [hb] at hpos
      cases hpl : playerB t with
      | false =>
        rw [hpl] at hplay
        repeat (first | with_reducible refine wT ?_ | with_reducible refine wg1 rfl ?_ | with_reducible refine wpF ?_ | with_reducible refine wnT ?_ | with_reducible refine wnF ?_ | with_reducible refine wpv ?_ | with_reducible refine wsm ?_ | with_reducible refine wrI ?_ | with_reducible refine wbd (by assumption) ?_ | dsimp only)
        refine W.ret ⟨?_, Keep.refl _ _⟩
        unfold winL; rw [hpl, Bool.and_false]; rfl
      | true =>
        rw [hpl] at hplay
        obtain ⟨R, C, hS⟩ := sides_of hb
        obtain ⟨T, rfl, hT⟩ := player_of hpl
        have hB := board_of_sides hS
        obtain ⟨rfl, rfl, _, _, _, _, h9, hlen, _⟩ := id hS
        repeat (first | with_reducible refine wF ?_ | with_reducible refine wg1 rfl ?_ | with_reducible refine wpF ?_ | with_reducible refine wnT ?_ | with_reducible refine wpv ?_ | with_reducible refine wsm ?_ | with_reducible refine wbd (by assumption) ?_ | dsimp only)
        refine wcall (newSearch_W g lf hB n (by omega) hlf ht.1) fun v h1 ⟨s, m, hv, hs, k1, l1, l2⟩ => ?_
        subst hv
        repeat (first | dsimp only)
        refine wcall (standingOf_W g lf (hp.keep k1) (by omega) T n (by omega) hlf) fun v h2 ⟨hv, k2⟩ => ?_
        subst hv
        repeat (first | dsimp only)
        refine wcall (sWinner_W g lf hB hbig hlf 9 _ _ _ _ n h2 (Nat.le_trans (fr_le _ _ _) h9) (stands_of hS hT) (by omega) (hs.keep k2) ((ht.2.keep k1).keep k2)) fun v h3 ⟨hv, hs3, k3⟩ => ?_
        subst hv
        repeat (first | with_reducible refine wrI ?_ | dsimp only)
        exact W.ret ⟨by rw [winL_eq hb hT], (k1.trans (k2.mono k1.1)).kbs (Nat.le_refl _) k3 l2⟩
  obtain ⟨_, h', e, rfl, k⟩ := this
  exact ⟨h', e, k⟩

/-! ### a line -/
/-- A list of integers at an object of its own. -/
def SlAt (i : Nat) (h : PHeap) (p : PV) (ys : List Int) : Prop := (p = .nilsl ∧ ys = []) ∨ (p = .sl i 0 ys.length ∧ At h i (ys.map (.int .i64)))
theorem SlAt.keep {i : Nat} {h h' : PHeap} {p : PV} {ys : List Int} (s : SlAt i h p ys) (k : Keep h.length h h') : SlAt i h' p ys := by
  rcases s with s | ⟨a, b⟩
  · exact .inl s
  · exact .inr ⟨a, b.keep k⟩
theorem SlAt.kb {i m : Nat} {h h' : PHeap} {p : PV} {ys : List Int} (s : SlAt i h p ys) (k : KB m h h') (hn : i ≠ m) : SlAt i h' p ys := by
  rcases s with s | ⟨a, b⟩
  · exact .inl s
  · exact .inr ⟨a, b.kb k hn⟩
theorem SlAt.own {i n : Nat} {h : PHeap} {p : PV} {ys : List Int} (s : SlAt i h p ys) (hn : n ≤ i) : OwnSl n h p ys := by
  rcases s with s | ⟨a, b⟩
  · exact .inl s
  · exact .inr ⟨i, hn, a, b⟩
theorem Sch.kbo {R C s m i : Nat} {h h' : PHeap} (hs : Sch R C h s m) (k : KB i h h') (h1 : s ≠ i) (h2 : m ≠ i) : Sch R C h' s m := by
  obtain ⟨a, es, b, c⟩ := hs; exact ⟨a.kb k h1, es, b.kb k h2, c⟩
end Go.Proofs.YtmhflbomploidaaDoor

/- The program's chapter 5: all fillings of the free cells one after another, those that are won, those that a stone decides, and the cells that do not matter. -/
set_option maxRecDepth 20000
namespace Go.Proofs.YtmhflbomploidaaDoor
open Go Go.Ip G

section
variable {Q : PV → PHeap → Prop} {f : PV → Res} {h : PHeap}
theorem wout {F : Int} (hf : W (f (.int .i64 (outI F))) Q) : W ((unP .xor (.int .i64 F)).bind f) Q := hf
theorem worI {a b : Int} (hf : W (f (.int .i64 (orI a b))) Q) : W ((binP Tryd.prog .or 3 (.int .i64 a) (.int .i64 b)).bind f) Q := wbd (by simp only [binP, binI, if_true, orI]) hf
theorem wandI {a b : Int} (hf : W (f (.int .i64 (andI a b))) Q) : W ((binP Tryd.prog .and 3 (.int .i64 a) (.int .i64 b)).bind f) Q := wbd (by simp only [binP, binI, if_true, andI]) hf
theorem waddW {a b : Int} (hf : W (f (.int .i64 (IntKind.i64.wrap (a + b)))) Q) : W ((binP Tryd.prog .add 3 (.int .i64 a) (.int .i64 b)).bind f) Q := wbd (by rw [bin_add]) hf
/-- A list of one number. -/
theorem wone {F : PV × PHeap → Res} {x : Int} (hf : ∀ p h', OwnSl h.length h' p [x] → Keep h.length h h' → W (F (p, h')) Q) : W ((buildSliceP Tryd.prog 23 1 [(0, .int .i64 x)] h).bind F) Q := by
  have hb : buildSliceP Tryd.prog 23 1 [(0, .int .i64 x)] h = some (.sl h.length 0 1, h ++ [.own 1 [.int .i64 x]]) := by
    simp [buildSliceP, tyElem, tySize, tyZero, repeatCells, fillP, PV.cells, setCells]
  exact wbd hb (hf _ _ (.inr ⟨h.length, Nat.le_refl _, rfl, by simp⟩) (Keep.append _ _ _ (Nat.le_refl _)))
end

theorem cellsN_nine (S : Nat) : (cellsN S).length ≤ 9 := by
  unfold cellsN
  have := List.length_filter_le S.testBit (List.range 9)
  rwa [List.length_range] at this
theorem partsN_most (S : Nat) : (partsN (cellsN S)).length ≤ 512 := by
  rw [partsN_length]
  exact Nat.pow_le_pow_right (by decide) (cellsN_nine S)

variable (g : Nat → PV) (lf n : Nat)

theorem partsOf_W {F : Nat} (hF : F < 2 ^ 9) (N : Nat) (hN : 1 ≤ N) (hlf : 1000 < lf) (h : PHeap) :
    W (CL g lf N fn_impl_partsOf [.int .i64 (F : Int)] h) fun q h' => OwnSl h.length h' q ((partsN (cellsN F)).map fun x : Nat => (x : Int)) ∧ Keep h.length h h' := by
  obtain ⟨n, rfl⟩ : ∃ n, N = n + 1 := ⟨N - 1, by omega⟩
  obtain ⟨l, hl, hc⟩ := chain_of hF
  have hmost := partsN_most F
  have hll : l.length < 512 := by rw [hl, List.length_cons] at hmost; omega
  rw [impl_partsOf.call_eq]
  unfold impl_partsOf.main
  simp only [env_lf, env_buildSlice]
  refine wone fun q1 h1 o1 k1 => ?_
  refine loopW (fun m s => ∃ (p : Nat) (ys l : List Nat) (q : PV) (h2 : PHeap), s = impl_partsOf.st0 (.int .i64 (F : Int)) q (.int .i64 (p : Int)) h2 ∧ m = l.length ∧ ys ++ l = partsN (cellsN F) ∧ chainB F p l = true ∧ OwnSl h.length h2 q (ys.map fun x : Nat => (x : Int)) ∧ Keep h.length h h2) ?_ lf l.length _ (by omega)
    ⟨0, [0], l, q1, h1, rfl, rfl, by rw [hl]; rfl, hc, o1, k1⟩
  rintro n1 m s ⟨p, ys, l, q, h2, rfl, rfl, hys, hc, o2, k2⟩ next
  rw [impl_partsOf.body0_eq]
  unfold impl_partsOf.body0
  simp only [env_buildSlice, env_bin, env_un, env_append]
  cases l with
  | nil =>
    rw [chainB, beq_iff_eq] at hc
    subst hc
    rw [List.append_nil] at hys
    repeat (first | with_reducible refine wF ?_ | with_reducible refine wneqF (by omega) ?_ | with_reducible refine wresO (by assumption) ?_ | rw [kLoop_exit] | rw [impl_partsOf.after0_se0_0_3_4_8])
    exact W.ret ⟨hys ▸ o2, k2⟩
  | cons x l =>
    rw [chainB, Bool.and_eq_true, Bool.and_eq_true, bne_iff_ne, beq_iff_eq] at hc
    obtain ⟨⟨hne, hnx⟩, hc⟩ := hc
    have hyl : ys.length ≤ 512 := by rw [← hys, List.length_append] at hmost; omega
    repeat (first | with_reducible refine wT ?_ | with_reducible refine wneqT (by omega) ?_)
    refine wout ?_
    refine worI ?_
    refine waddW ?_
    refine wandI ?_
    rw [show andI (IntKind.i64.wrap (orI (p : Int) (outI (F : Int)) + 1)) (F : Int) = (x : Int) from hnx]
    refine wap o2 k2.1 (by rw [List.length_map]; omega) fun p' h3 o3 k3 => ?_
    repeat (first | dsimp only)
    exact next _ _ (by rw [List.length_cons]; omega) ⟨x, ys ++ [x], l, p', h3, rfl, rfl, by rw [List.append_assoc]; exact hys, hc, by rw [List.map_append]; exact o3, k2.trans k3⟩

/-! ### fillings that are won -/
theorem part_lt {R C : Nat} {r c : Int} {xs : List Int} {x S : Nat} (hS : Sides r c R C xs) (hSF : ∀ j, S.testBit j = true → (setL xs 0).testBit j = true) (hx : x ∈ partsN (cellsN S)) : x < 2 ^ (R * C) :=
  partsN_le (fun k hk => set_in hS (w := 0) (hSF k (by unfold cellsN at hk; exact (List.mem_filter.1 hk).2))) hx

/-! ### fillings that a stone decides -/
/-! ### cells that do not matter -/
end Go.Proofs.YtmhflbomploidaaDoor

/- The library's stable sort, whole; and all parts of a set by size. -/
set_option maxRecDepth 20000
namespace Go.Proofs.YtmhflbomploidaaDoor
open Go Go.Ip G

section
variable (g : Nat → PV) (lf : Nat) {f : FuncId} {ok : Int → Prop} {kf cf : Int → Nat} (hcmp : CmpOk g lf f ok cf) (hlf : 1000 < lf)
include hcmp hlf

set_option maxHeartbeats 1000000 in
/-- Blocks of a size are merged to blocks of twice the size. -/
theorem blocks_W {n0 n : Nat} {h : PHeap} {p : PV} {d ys : List Int} {bs : Nat} (hn : n = d.length) (hl : d.length ≤ 512) (hok : ∀ x ∈ d, ok x) (hc : d.Pairwise (Cp kf cf)) (h1 : 20 ≤ bs) (h2 : bs ≤ 1024) (hB : Blk kf bs d ys) (o : OwnSl n0 h p ys) (N : Nat) (hN : 18 ≤ N) :
    W (loopK (ev ((env g lf N).cx Tryd.prog slices_stableCmpFunc_int_.kl) slices_stableCmpFunc_int_.lp1) lf (slices_stableCmpFunc_int_.st1 p (.int .i64 (n : Int)) (.fn f) (.int .i64 (bs : Int)) h) (slices_stableCmpFunc_int_.K1 (env g lf N) (kTop Tryd.prog Tryd.f112)))
      fun _ h' => ∃ S, S.Perm d ∧ Srt kf S ∧ OwnSl n0 h' p S ∧ Keep n0 h h' ∧ h'.length = h.length := by
  refine loopW (fun z st => ∃ (bs : Nat) (ys : List Int) (h2 : PHeap), st = slices_stableCmpFunc_int_.st1 p (.int .i64 (n : Int)) (.fn f) (.int .i64 (bs : Int)) h2 ∧ z = n - bs ∧ 20 ≤ bs ∧ bs ≤ 1024 ∧ Blk kf bs d ys ∧ OwnSl n0 h2 p ys ∧ Keep n0 h h2 ∧ h2.length = h.length) ?_ lf (n - bs) _ (by omega)
    ⟨bs, ys, h, rfl, rfl, h1, h2, hB, o, Keep.refl _ _, rfl⟩
  clear hB o h1 h2 ys bs
  rintro n1 z st ⟨bs, ys, h2, rfl, rfl, hb1, hb2, hB, o, k2, l2⟩ next
  rw [slices_stableCmpFunc_int_.body1_eq]
  unfold slices_stableCmpFunc_int_.body1
  simp only [env_lf, env_bin]
  have lys := hB.len
  by_cases hlt : bs < n
  · repeat (first | with_reducible refine wT ?_ | (with_reducible refine wdb1 (by omega) ?_) | with_reducible refine wlssT (by omega) ?_)
    refine loopW (fun z st => ∃ (P Q rest ys : List Int) (a b : Nat) (h3 : PHeap), st = slices_stableCmpFunc_int_.st2 p (.int .i64 (n : Int)) (.fn f) (.int .i64 (bs : Int)) (.int .i64 (a : Int)) (.int .i64 (b : Int)) h3 ∧ z = rest.length ∧ P.length = a ∧ b = a + 2 * bs ∧ d = Q ++ rest ∧ a + rest.length = n ∧ Blk kf bs rest ys ∧ (∀ zs, Blk kf (2 * bs) rest zs → Blk kf (2 * bs) d (P ++ zs)) ∧
        OwnSl n0 h3 p (P ++ ys) ∧ Keep n0 h h3 ∧ h3.length = h.length) ?_ lf n _ (by omega)
      ⟨[], [], d, ys, 0, 2 * bs, h2, rfl, hn, rfl, by omega, rfl, by omega, hB, fun zs hz => hz, o, k2, l2⟩
    clear hB o k2 l2 lys ys h2
    rintro n2 z2 st2 ⟨P, Q, rest, ys, a, b, h3, rfl, rfl, hP, hb, hd, har, hB, hw, o, k3, l3⟩ next2
    have lys := hB.len
    rw [slices_stableCmpFunc_int_.body2_eq]
    unfold slices_stableCmpFunc_int_.body2
    simp only [env_C, env_bin]
    by_cases hle : b ≤ n
    · obtain ⟨A, sa, r1, y1, e1, e2, la, pa, ssa, hB1⟩ := hB.first (by omega)
      subst e1 e2
      rw [List.length_append] at har
      obtain ⟨B, sb, r2, y2, e3, e4, lb, pb, ssb, hB2⟩ := hB1.first (by omega)
      subst e3 e4
      have lr2 := hB2.len
      have lsa := pa.length_eq
      have lsb := pb.length_eq
      rw [List.length_append] at har
      have hcd : ∀ x ∈ sa, ∀ y ∈ sb, Cp kf cf x y := fun x hx y hy => by
        have h1 := (List.pairwise_append.1 (hd ▸ hc)).2.1
        exact (List.pairwise_append.1 h1).2.2 x (pa.mem_iff.1 hx) y (List.mem_append_left _ (pb.mem_iff.1 hy))
      have oka : ∀ x ∈ sa, ok x := fun x hx => hok x (by rw [hd]; exact List.mem_append_right _ (List.mem_append_left _ (pa.mem_iff.1 hx)))
      have okb : ∀ x ∈ sb, ok x := fun x hx => hok x (by rw [hd]; exact List.mem_append_right _ (List.mem_append_right _ (List.mem_append_left _ (pb.mem_iff.1 hx))))
      have hsym := sym_W (kf := kf) (cf := cf) (ok := ok) g lf hcmp hlf 9 n0 h3 p P sa sb y2 a (a + bs) b o (by simp only [List.length_append]; omega) oka okb ssa ssb hcd hP.symm (by omega) (by omega) (by omega) (by omega) (by omega) N (by omega)
      clear hB hB1 hc hok next hcd oka okb lys
      repeat (first | with_reducible refine wT ?_ | with_reducible refine waddN (by omega) ?_ | with_reducible refine wleqT (by omega) ?_)
      refine wcall hsym fun v h4 ⟨S, pS, sS, o4, k4, l4⟩ => ?_
      repeat (first | (with_reducible refine wdb1 (by omega) ?_) | with_reducible refine waddN (by omega) ?_ | dsimp only)
      have lS := pS.length_eq
      rw [List.length_append] at lS
      refine next2 _ _ (by simp only [List.length_append]; omega) ⟨P ++ S, Q ++ (A ++ B), r2, y2, b, b + 2 * bs, h4, rfl, rfl, by rw [List.length_append]; omega, rfl, by rw [hd]; simp [List.append_assoc], by omega, hB2, fun zs hz => ?_, by rw [List.append_assoc]; exact o4, k3.trans k4, l4.trans l3⟩
      rw [List.append_assoc]
      refine hw _ ?_
      rw [← List.append_assoc]
      exact .more (by rw [List.length_append]; omega) (pS.trans (pa.append pb)) sS hz
    · by_cases hab : a + bs < n
      · obtain ⟨A, sa, r1, y1, e1, e2, la, pa, ssa, hB1⟩ := hB.first (by omega)
        subst e1 e2
        rw [List.length_append] at har
        have lr1 := hB1.len
        have lsa := pa.length_eq
        have ssb := hB1.small (by omega)
        have pb := hB1.perm
        have hcd : ∀ x ∈ sa, ∀ y ∈ y1, Cp kf cf x y := fun x hx y hy => by
          have h1 := (List.pairwise_append.1 (hd ▸ hc)).2.1
          exact (List.pairwise_append.1 h1).2.2 x (pa.mem_iff.1 hx) y (pb.mem_iff.1 hy)
        have oka : ∀ x ∈ sa, ok x := fun x hx => hok x (by rw [hd]; exact List.mem_append_right _ (List.mem_append_left _ (pa.mem_iff.1 hx)))
        have okb : ∀ x ∈ y1, ok x := fun x hx => hok x (by rw [hd]; exact List.mem_append_right _ (List.mem_append_right _ (pb.mem_iff.1 hx)))
        have hsym := sym_W (kf := kf) (cf := cf) (ok := ok) g lf hcmp hlf 9 n0 h3 p P sa y1 [] a (a + bs) n (by rw [List.append_nil]; exact o) (by simp only [List.length_append, List.length_nil]; omega) oka okb ssa ssb hcd hP.symm (by omega) (by omega) (by omega) (by omega) (by omega) N (by omega)
        clear hB hB1 hc hok next2 hcd oka okb lys
        repeat (first | with_reducible refine wT ?_ | with_reducible refine wF ?_ | with_reducible refine waddN (by omega) ?_ | with_reducible refine wlssT (by omega) ?_ | with_reducible refine wleqF (by omega) ?_ | rw [kLoop_exit] | rw [slices_stableCmpFunc_int_.after2_se4_0_1_2_6_7_8_35] | simp only [env_C, env_g, env_lf, env_pick, env_alloc, env_box, env_build, env_buildSlice, env_load, env_store, env_ptr, env_bin, env_un, env_conv, env_make, env_slice, env_fieldAddr, env_field, env_indexAddr, env_index, env_extract, env_len, env_append, env_max, env_min, env_makeMap, env_lookup, env_update])
        refine wcall hsym fun v h4 ⟨S, pS, sS, o4, k4, l4⟩ => ?_
        rw [List.append_nil] at o4
        repeat (first | (with_reducible refine wdb2 (by omega) ?_) | dsimp only)
        exact next _ _ (by omega) ⟨2 * bs, P ++ S, h4, rfl, rfl, by omega, by omega, hw _ (.last (by rw [List.length_append]; omega) (pS.trans (pa.append pb)) sS), o4, k3.trans k4, l4.trans l3⟩
      · have hs := hB.small (by omega)
        have pb := hB.perm
        clear hc hok next2
        repeat (first | with_reducible refine wF ?_ | (with_reducible refine wdb2 (by omega) ?_) | with_reducible refine waddN (by omega) ?_ | with_reducible refine wlssF (by omega) ?_ | with_reducible refine wleqF (by omega) ?_ | rw [kLoop_exit] | rw [slices_stableCmpFunc_int_.after2_se4_0_1_2_6_7_8_35] | simp only [env_C, env_g, env_lf, env_pick, env_alloc, env_box, env_build, env_buildSlice, env_load, env_store, env_ptr, env_bin, env_un, env_conv, env_make, env_slice, env_fieldAddr, env_field, env_indexAddr, env_index, env_extract, env_len, env_append, env_max, env_min, env_makeMap, env_lookup, env_update])
        exact next _ _ (by omega) ⟨2 * bs, P ++ ys, h3, rfl, rfl, by omega, by omega, hw _ (.last (by omega) pb hs), o, k3, l3⟩
  · repeat (first | with_reducible refine wF ?_ | with_reducible refine wlssF (by omega) ?_ | rw [kLoop_exit] | rw [slices_stableCmpFunc_int_.after1_se2_0_1_2_6_30])
    exact W.ret ⟨ys, hB.perm, hB.small (by omega), o, k2, l2⟩

set_option maxHeartbeats 1000000 in
theorem stable_W {n0 n : Nat} {h : PHeap} {p : PV} {d : List Int} (hn : n = d.length) (hl : d.length ≤ 512) (hok : ∀ x ∈ d, ok x) (hc : d.Pairwise (Cp kf cf)) (o : OwnSl n0 h p d) (N : Nat) (hN : 19 ≤ N) :
    W (CL g lf N fn_slices_stableCmpFunc_int_ [p, .int .i64 (n : Int), .fn f] h) fun _ h' => ∃ S, S.Perm d ∧ Srt kf S ∧ OwnSl n0 h' p S ∧ Keep n0 h h' ∧ h'.length = h.length := by
  obtain ⟨k, rfl⟩ : ∃ k, N = k + 1 := ⟨N - 1, by omega⟩
  rw [slices_stableCmpFunc_int_.call_eq]
  unfold slices_stableCmpFunc_int_.main
  simp only [env_lf]
  refine loopW (fun z st => ∃ (P Q rest : List Int) (a b : Nat) (h2 : PHeap), st = slices_stableCmpFunc_int_.st0 p (.int .i64 (n : Int)) (.fn f) (.int .i64 20) (.int .i64 (a : Int)) (.int .i64 (b : Int)) h2 ∧ z = rest.length ∧ P.length = a ∧ b = a + 20 ∧ d = Q ++ rest ∧ a + rest.length = n ∧ (∀ zs, Blk kf 20 rest zs → Blk kf 20 d (P ++ zs)) ∧
      OwnSl n0 h2 p (P ++ rest) ∧ Keep n0 h h2 ∧ h2.length = h.length) ?_ lf n _ (by omega)
    ⟨[], [], d, 0, 20, h, rfl, hn, rfl, rfl, rfl, by omega, fun zs hz => hz, o, Keep.refl _ _, rfl⟩
  rintro n2 z2 st2 ⟨P, Q, rest, a, b, h2, rfl, rfl, hP, hb, hd, har, hw, o2, k2, l2⟩ next
  have hcr : rest.Pairwise (Cp kf cf) := (List.pairwise_append.1 (hd ▸ hc)).2.1
  have okr : ∀ x ∈ rest, ok x := fun x hx => hok x (by rw [hd]; exact List.mem_append_right _ hx)
  rw [slices_stableCmpFunc_int_.body0_eq]
  unfold slices_stableCmpFunc_int_.body0
  simp only [env_C, env_bin]
  by_cases hle : b ≤ n
  · obtain ⟨A, r, eA, lA⟩ : ∃ A r, rest = A ++ r ∧ A.length = 20 := ⟨rest.take 20, rest.drop 20, (List.take_append_drop _ _).symm, by rw [List.length_take]; omega⟩
    subst eA
    rw [List.length_append] at har
    have hin := insertion_W (kf := kf) (cf := cf) (ok := ok) g lf hcmp hlf (U := P) (A := A) (V := r) (a := a) (b := b) o2 (by simp only [List.length_append]; omega) (fun x hx => okr x (List.mem_append_left _ hx)) (List.pairwise_append.1 hcr).1 hP.symm (by omega) k (by omega)
    repeat (first | with_reducible refine wT ?_ | with_reducible refine wleqT (by omega) ?_)
    refine wcall hin fun v h3 ⟨S, pS, sS, o3, k3, l3⟩ => ?_
    have lS := pS.length_eq
    repeat (first | with_reducible refine wadd (by omega) ?_ | dsimp only)
    refine next _ _ (by rw [List.length_append]; omega) ⟨P ++ S, Q ++ A, r, b, b + 20, h3, rfl, rfl, by rw [List.length_append]; omega, rfl, by rw [hd]; simp [List.append_assoc], by omega, fun zs hz => ?_, by rw [List.append_assoc]; exact o3, k2.trans k3, l3.trans l2⟩
    rw [List.append_assoc]
    exact hw _ (.more lA pS sS hz)
  · have hin := insertion_W (kf := kf) (cf := cf) (ok := ok) g lf hcmp hlf (U := P) (A := rest) (V := []) (a := a) (b := n) (h := h2) (p := p) (n0 := n0) (by rw [List.append_nil]; exact o2) (by simp only [List.length_append, List.length_nil]; omega) okr hcr hP.symm (by omega) k (by omega)
    repeat (first | with_reducible refine wF ?_ | with_reducible refine wleqF (by omega) ?_ | rw [kLoop_exit] | rw [slices_stableCmpFunc_int_.after0_se0_0_1_2_6_7_8_13] | simp only [env_C, env_g, env_lf, env_pick, env_alloc, env_box, env_build, env_buildSlice, env_load, env_store, env_ptr, env_bin, env_un, env_conv, env_make, env_slice, env_fieldAddr, env_field, env_indexAddr, env_index, env_extract, env_len, env_append, env_max, env_min, env_makeMap, env_lookup, env_update])
    refine wcall hin fun v h3 ⟨S, pS, sS, o3, k3, l3⟩ => ?_
    rw [List.append_nil] at o3
    repeat (first | dsimp only)
    refine (blocks_W g lf hcmp hlf (bs := 20) hn hl hok hc (by decide) (by decide) (hw _ (.last (by omega) pS sS)) o3 k (by omega)).mono ?_
    rintro v h4 ⟨S', pS', sS', o4, k4, l4⟩
    exact ⟨S', pS', sS', o4, (k2.trans k3).trans k4, (l4.trans l3).trans l2⟩

theorem sortStable_W {n0 : Nat} {h : PHeap} {p : PV} {d : List Int} (hl : d.length ≤ 512) (hok : ∀ x ∈ d, ok x) (hc : d.Pairwise (Cp kf cf)) (o : OwnSl n0 h p d) (N : Nat) (hN : 20 ≤ N) :
    W (CL g lf N fn_slices_SortStableFunc___int_int_ [p, .fn f] h) fun _ h' => ∃ S, S.Perm d ∧ Srt kf S ∧ OwnSl n0 h' p S ∧ Keep n0 h h' ∧ h'.length = h.length := by
  obtain ⟨k, rfl⟩ : ∃ k, N = k + 1 := ⟨N - 1, by omega⟩
  have hst := stable_W g lf hcmp hlf rfl hl hok hc o k (by omega)
  rw [slices_SortStableFunc___int_int_.call_eq]
  unfold slices_SortStableFunc___int_int_.main
  simp only [env_C, env_len]
  repeat (first | with_reducible refine wlen (OwnSl.int (by assumption)) ?_)
  refine wcall hst fun v h3 hr => ?_
  repeat (first | dsimp only)
  exact W.ret hr
end

/-! ### how many cells a set has -/
theorem ones_all (g : Nat → PV) (lf n : Nat) (h : PHeap) : ((List.range 32).map fun a => (List.range 16).map fun b => bits_OnesCount64.main (env g lf n) (.int .u64 ((a * 16 + b : Nat) : Int)) h) = (List.range 32).map fun a => (List.range 16).map fun b => some (PV.int .i64 ((sizeN (a * 16 + b) : Nat) : Int), h) := by kernel_rfl
theorem ones_at (g : Nat → PV) (lf n : Nat) (h : PHeap) {x : Nat} (hx : x < 512) : bits_OnesCount64.main (env g lf n) (.int .u64 (x : Int)) h = some (.int .i64 ((sizeN x : Nat) : Int), h) := by
  have h1 := congrArg (fun l => (l[x / 16]?).bind fun r => r[x % 16]?) (ones_all g lf n h)
  simp only [List.getElem?_map, List.getElem?_range (show x / 16 < 32 by omega), List.getElem?_range (show x % 16 < 16 by omega), Option.map_some, Option.bind_some, Option.some.injEq] at h1
  rw [show x / 16 * 16 + x % 16 = x by omega] at h1
  exact h1
theorem countIn_W (g : Nat → PV) (lf N : Nat) (hN : 3 ≤ N) (h : PHeap) {x : Nat} (hx : x < 512) : CL g lf N fn_impl_countIn [.int .i64 (x : Int)] h = some (.int .i64 ((sizeN x : Nat) : Int), h) := by
  obtain ⟨n, rfl⟩ : ∃ n, N = n + 3 := ⟨N - 3, by omega⟩
  have e64 : CL g lf (n + 1) fn_bits_OnesCount64 [.int .u64 (x : Int)] h = some (.int .i64 ((sizeN x : Nat) : Int), h) := by
    rw [bits_OnesCount64.call_eq]; exact ones_at g lf n h hx
  have e1 : CL g lf (n + 2) fn_bits_OnesCount [.int .u64 (x : Int)] h = some (.int .i64 ((sizeN x : Nat) : Int), h) := by
    rw [bits_OnesCount.call_eq]
    unfold bits_OnesCount.main
    simp only [env_C]
    rw [e64]
    rfl
  rw [impl_countIn.call_eq]
  unfold impl_countIn.main
  simp only [env_C, env_conv]
  rw [conv_iu, show IntKind.u64.wrap (x : Int) = (x : Int) from by show (x : Int) % 18446744073709551616 = (x : Int); omega]
  simp only [Option.bind_some]
  rw [e1]
  rfl

/-- What the program's sets are compared by: first the number of cells, then the number of the set. -/
def cfN (x : Int) : Nat := sizeN x.toNat
def kfN (x : Int) : Nat := sizeN x.toNat * 512 + x.toNat
def okN (x : Int) : Prop := 0 ≤ x ∧ x < 512
theorem cmpOk (g : Nat → PV) (lf : Nat) : CmpOk g lf fn_impl_partsBySize_1 okN cfN := by
  intro N hN a b ha hb h
  obtain ⟨n, rfl⟩ : ∃ n, N = n + 1 := ⟨N - 1, by omega⟩
  obtain ⟨A, rfl⟩ := Int.eq_ofNat_of_zero_le ha.1
  obtain ⟨B, rfl⟩ := Int.eq_ofNat_of_zero_le hb.1
  have hA : A < 512 := by have := ha.2; omega
  have hB : B < 512 := by have := hb.2; omega
  have e1 := countIn_W g lf n (by omega) h hA
  have e2 := countIn_W g lf n (by omega) h hB
  have nan : ∀ (N : Nat), 1 ≤ N → ∀ z : Int, CL g lf N fn_cmp_isNaN_int_ [.int .i64 z] h = some (.bool false, h) := by
    intro N hN z
    obtain ⟨n, rfl⟩ : ∃ n, N = n + 1 := ⟨N - 1, by omega⟩
    rw [cmp_isNaN_int_.call_eq]
    unfold cmp_isNaN_int_.main
    simp
  have hC : ∃ c : Int, CL g lf n fn_cmp_Compare_int_ [.int .i64 ((sizeN A : Nat) : Int), .int .i64 ((sizeN B : Nat) : Int)] h = some (.int .i64 c, h) ∧ (c < 0 ↔ sizeN A < sizeN B) := by
    obtain ⟨m, rfl⟩ : ∃ m, n = m + 1 := ⟨n - 1, by omega⟩
    rw [cmp_Compare_int_.call_eq]
    unfold cmp_Compare_int_.main
    simp only [env_C, env_bin, nan m (by omega), Option.bind_some, cond_bool, cond_false, bin_lss, bin_gtr, res_int]
    by_cases h1 : ((sizeN A : Nat) : Int) < ((sizeN B : Nat) : Int)
    · exact ⟨-1, by rw [decide_eq_true h1]; rfl, by omega⟩
    · by_cases h2 : ((sizeN B : Nat) : Int) < ((sizeN A : Nat) : Int)
      · exact ⟨1, by rw [decide_eq_false h1, decide_eq_true h2]; rfl, by omega⟩
      · exact ⟨0, by rw [decide_eq_false h1, decide_eq_false h2]; rfl, by omega⟩
  obtain ⟨c, ec, hc⟩ := hC
  refine ⟨c, ?_, by unfold cfN; simpa using hc⟩
  rw [impl_partsBySize_1.call_eq]
  unfold impl_partsBySize_1.main
  simp only [env_C]
  rw [e1]
  simp only [Option.bind_some]
  rw [e2]
  simp only [Option.bind_some]
  rw [ec]
  rfl

theorem parts_cp {F : Nat} (hF : F < 2 ^ 9) : ((partsN (cellsN F)).map fun x : Nat => (x : Int)).Pairwise (Cp kfN cfN) := by
  rw [List.pairwise_map]
  have hlt : ∀ y ∈ partsN (cellsN F), y < 512 := fun y hy => by
    have := partsN_le (n := 9) (fun c hc => by unfold cellsN at hc; exact List.mem_range.1 (List.mem_filter.1 hc).1) hy
    omega
  refine List.Pairwise.imp_of_mem (fun {a b} ha hb hab => ?_) (parts_asc hF)
  have h1 := hlt a ha
  have h2 := hlt b hb
  unfold Cp kfN cfN
  simp only [Int.toNat_natCast]
  constructor
  · omega
  · constructor <;> intro h <;> omega
/-- All parts of a set, those of fewer cells first. -/
theorem partsBySize_W (g : Nat → PV) (lf : Nat) {F : Nat} (hF : F < 2 ^ 9) (hlf : 1000 < lf) (N : Nat) (hN : 21 ≤ N) (h : PHeap) :
    W (CL g lf N fn_impl_partsBySize [.int .i64 (F : Int)] h) fun q h' => ∃ ys : List Nat, ys.Perm (partsN (cellsN F)) ∧ ys.Pairwise (fun a b => sizeN a * 512 + a < sizeN b * 512 + b) ∧ OwnSl h.length h' q (ys.map fun x : Nat => (x : Int)) ∧ Keep h.length h h' := by
  obtain ⟨n, rfl⟩ : ∃ n, N = n + 1 := ⟨N - 1, by omega⟩
  rw [impl_partsBySize.call_eq]
  unfold impl_partsBySize.main
  simp only [env_C]
  refine wcall (partsOf_W g lf hF n (by omega) hlf h) fun q h1 ⟨o1, k1⟩ => ?_
  have hso := sortStable_W (kf := kfN) (cf := cfN) (ok := okN) g lf (cmpOk g lf) hlf (d := (partsN (cellsN F)).map fun x : Nat => (x : Int)) (by rw [List.length_map]; exact partsN_most F) (by
    intro x hx
    obtain ⟨y, hy, rfl⟩ := List.mem_map.1 hx
    have := partsN_le (n := 9) (fun c hc => by unfold cellsN at hc; exact List.mem_range.1 (List.mem_filter.1 hc).1) hy
    unfold okN; omega) (parts_cp hF) o1 n (by omega)
  repeat (first | dsimp only)
  refine wcall hso fun v h2 ⟨S, pS, sS, o2, k2, l2⟩ => ?_
  have hmem : ∀ x ∈ S, ∃ y : Nat, (y : Int) = x := fun x hx => by
    obtain ⟨y, _, rfl⟩ := List.mem_map.1 (pS.mem_iff.1 hx)
    exact ⟨y, rfl⟩
  have hS : S = (S.map Int.toNat).map fun x : Nat => (x : Int) := by
    rw [List.map_map]
    conv => lhs; rw [← List.map_id S]
    refine List.map_congr_left fun x hx => ?_
    obtain ⟨y, rfl⟩ := hmem x hx
    simp
  repeat (first | with_reducible refine wresO (by assumption) ?_ | dsimp only)
  refine W.ret ⟨S.map Int.toNat, ?_, ?_, by rw [← hS]; exact o2, ⟨Nat.le_trans k1.1 (Nat.le_of_eq l2.symm), fun i hi => (k2.2 i hi).trans (k1.2 i hi)⟩⟩
  · have := pS.map Int.toNat
    rw [List.map_map] at this
    refine this.trans (.of_eq ?_)
    conv => rhs; rw [← List.map_id (partsN (cellsN F))]
    exact List.map_congr_left fun x _ => by simp
  · rw [List.pairwise_map]
    exact sS.imp fun h => h

end Go.Proofs.YtmhflbomploidaaDoor

/- The program's chapter 6: sets that are enough, the least of them, bridges, and cells that must be taken. -/
set_option maxRecDepth 20000
namespace Go.Proofs.YtmhflbomploidaaDoor
open Go Go.Ip G

/-- What stands with stones of the other player on all free cells outside of a set. -/
theorem given_sets {xs : List Int} {P : Nat} (hP : P = 1 ∨ P = 2) (S : Nat) : setL (givenL xs (P : Int) S) 0 = setL xs 0 &&& S ∧ setL (givenL xs (P : Int) S) (P : Int) = setL xs (P : Int) ∧ setL (givenL xs (P : Int) S) (3 - (P : Int)) = setL xs (3 - (P : Int)) ||| minusN (setL xs 0) S := by
  refine ⟨Nat.eq_of_testBit_eq fun j => ?_, Nat.eq_of_testBit_eq fun j => ?_, Nat.eq_of_testBit_eq fun j => ?_⟩
  · rw [Bool.eq_iff_iff, setL_bit, given_free hP, Nat.testBit_and, Bool.and_eq_true, setL_bit]
  · rw [Bool.eq_iff_iff, setL_bit, given_own hP, setL_bit]
  · rw [Bool.eq_iff_iff, setL_bit, given_other hP, Nat.testBit_or, Bool.or_eq_true, minusN_bit, Bool.and_eq_true, setL_bit, setL_bit]
    cases S.testBit j <;> simp
theorem OwnSl.kbo {n m : Nat} {h h' : PHeap} {p : PV} {xs : List Int} (s : OwnSl n h p xs) (k : KB m h h') (hm : m < n) : OwnSl n h' p xs := by
  rcases s with s | ⟨id, h1, h2, h3⟩
  · exact .inl s
  · exact .inr ⟨id, h1, h2, by rw [k.2 id (List.getElem?_eq_some_iff.1 h3).1 (by omega)]; exact h3⟩
theorem KB.of {n m : Nat} {h h' : PHeap} (k : Keep n h h') (hn : h.length ≤ n) : KB m h h' := ⟨k.1, fun i hi _ => k.2 i (by omega)⟩

theorem Tab.at {g : Nat → PV} {id : Nat} {l : List PV} {h h' : PHeap} (t : Tab g h) (a : At h id l) (k : KB id h h') : Tab g h' := by
  obtain ⟨i, e, ho⟩ := t
  exact ⟨i, e, by rw [k.2 i (List.getElem?_eq_some_iff.1 ho).1 (fun e => by subst e; unfold At at a; rw [ho] at a; cases a)]; exact ho⟩
theorem Tab64.at {g : Nat → PV} {id : Nat} {l : List PV} {h h' : PHeap} (t : Tab64 g h) (a : At h id l) (k : KB id h h') : Tab64 g h' := fun i e => by
  have ho := t i e
  rw [k.2 i (List.getElem?_eq_some_iff.1 ho).1 (fun e => by subst e; unfold At at a; rw [ho] at a; cases a)]; exact ho
theorem wmulZ {Q : PV → PHeap → Prop} {P : Program} {t : TypeId} {x y z : Nat} {f : PV → Res} (hz : z = x * y) (h : z < 4611686018427387904) (hf : W (f (.int .i64 (z : Int))) Q) : W ((binP P .mul t (.int .i64 (x : Int)) (.int .i64 (y : Int))).bind f) Q := by
  subst hz; exact wmulN h hf

variable (g : Nat → PV) (lf n : Nat)

theorem filled_W {xs : List Int} {P : Nat} (hP : P = 1 ∨ P = 2) (hx : ∀ w, setL xs w < 2 ^ 9) {S T : Nat} (hS9 : S < 2 ^ 9) (N : Nat) (hN : 1 ≤ N) (h : PHeap) :
    W (CL g lf N fn_impl_standing_filledOutside [stP (setL xs 0) (setL xs 1) (setL xs 2) T, .int .i64 (S : Int), .int .i64 ((3 - P : Nat) : Int)] h) fun v h' =>
      v = stP (setL (givenL xs (P : Int) S) 0) (setL (givenL xs (P : Int) S) 1) (setL (givenL xs (P : Int) S) 2) T ∧ Keep h.length h h' := by
  obtain ⟨n, rfl⟩ : ∃ n, N = n + 1 := ⟨N - 1, by omega⟩
  obtain ⟨e1, e2, e3⟩ := given_sets (xs := xs) hP S
  have hf := hx 0
  have ha := hx 1
  have hb := hx 2
  have hm : minusN (setL xs 0) S < 2 ^ 9 := minusN_lt hf
  obtain ⟨F, hF⟩ : ∃ F, F = setL xs 0 := ⟨_, rfl⟩
  obtain ⟨A, hA⟩ : ∃ A, A = setL xs 1 := ⟨_, rfl⟩
  obtain ⟨B, hB⟩ : ∃ B, B = setL xs 2 := ⟨_, rfl⟩
  rcases hP with rfl | rfl
  · rw [show ((3 : Int) - ((1 : Nat) : Int)) = 2 from rfl] at e3
    rw [show (((1 : Nat) : Int)) = (1 : Int) from rfl] at e1 e2 e3
    rw [show (((1 : Nat) : Int)) = (1 : Int) from rfl, e1, e2, e3]
    rw [← hF] at hf hm ⊢
    rw [← hA] at ha ⊢
    rw [← hB] at hb ⊢
    clear e1 e2 e3
    rw [impl_standing_filledOutside.call_eq]
    unfold impl_standing_filledOutside.main
    simp only [env_alloc, env_box, env_load, env_store, env_bin, env_fieldAddr, env_indexAddr]
    refine wboxS fun h1 id o1 k1 l1 => ?_
    dsimp only
    refine walS fun h2 id2 o2 k2 l2 => ?_
    have o1' := o1.keep k2
    have hne : id2 ≠ id := by have := o1.lt; omega
    have kk2 : Keep h.length h h2 := k1.trans (k2.mono k1.1)
    repeat (first | (with_reducible refine wbd (fSt0 _) ?_) | (with_reducible refine wia30 ?_) | (with_reducible refine wia3 (by omega) ?_) | (with_reducible refine wbd (ld1 (by assumption) rfl) ?_) | with_reducible refine wor (by omega) (by omega) ?_ | with_reducible refine wandNot (by omega) (by omega) ?_ | dsimp only)
    refine wst1 o1' (show 0 + 2 < 4 by decide) fun h3 o3 k3 => ?_
    have o3 : At h3 id (stC F A (B ||| minusN F S) T) := o3
    have o23 := o2.kb k3 hne
    repeat (first | (with_reducible refine wbd (fSt0 _) ?_) | (with_reducible refine wia30 ?_) | (with_reducible refine wbd (ld1 (by assumption) rfl) ?_) | with_reducible refine wand (by omega) (by omega) ?_)
    refine wst1 o3 (show 0 + 0 < 4 by decide) fun h4 o4 k4 => ?_
    have o4 : At h4 id (stC (F &&& S) A (B ||| minusN F S) T) := o4
    have o24 := o23.kb k4 hne
    repeat (first | (with_reducible refine wbd (ldS (by assumption)) ?_))
    refine wstS o24 fun h6 o6 k6 => ?_
    repeat (first | (with_reducible refine wbd (ldS (by assumption)) ?_))
    exact W.ret ⟨rfl, ((kk2.kbs (Nat.le_refl _) k3 l1).kbs (Nat.le_refl _) k4 l1).kbs (Nat.le_refl _) k6 (Nat.le_trans k1.1 l2)⟩
  · rw [show ((3 : Int) - ((2 : Nat) : Int)) = 1 from rfl] at e3
    rw [show (((2 : Nat) : Int)) = (2 : Int) from rfl] at e1 e2 e3
    rw [show (((2 : Nat) : Int)) = (2 : Int) from rfl, e1, e2, e3]
    rw [← hF] at hf hm ⊢
    rw [← hA] at ha ⊢
    rw [← hB] at hb ⊢
    clear e1 e2 e3
    rw [impl_standing_filledOutside.call_eq]
    unfold impl_standing_filledOutside.main
    simp only [env_alloc, env_box, env_load, env_store, env_bin, env_fieldAddr, env_indexAddr]
    refine wboxS fun h1 id o1 k1 l1 => ?_
    dsimp only
    refine walS fun h2 id2 o2 k2 l2 => ?_
    have o1' := o1.keep k2
    have hne : id2 ≠ id := by have := o1.lt; omega
    have kk2 : Keep h.length h h2 := k1.trans (k2.mono k1.1)
    repeat (first | (with_reducible refine wbd (fSt0 _) ?_) | (with_reducible refine wia30 ?_) | (with_reducible refine wia3 (by omega) ?_) | (with_reducible refine wbd (ld1 (by assumption) rfl) ?_) | with_reducible refine wor (by omega) (by omega) ?_ | with_reducible refine wandNot (by omega) (by omega) ?_ | dsimp only)
    refine wst1 o1' (show 0 + 1 < 4 by decide) fun h3 o3 k3 => ?_
    have o3 : At h3 id (stC F (A ||| minusN F S) B T) := o3
    have o23 := o2.kb k3 hne
    repeat (first | (with_reducible refine wbd (fSt0 _) ?_) | (with_reducible refine wia30 ?_) | (with_reducible refine wbd (ld1 (by assumption) rfl) ?_) | with_reducible refine wand (by omega) (by omega) ?_)
    refine wst1 o3 (show 0 + 0 < 4 by decide) fun h4 o4 k4 => ?_
    have o4 : At h4 id (stC (F &&& S) (A ||| minusN F S) B T) := o4
    have o24 := o23.kb k4 hne
    repeat (first | (with_reducible refine wbd (ldS (by assumption)) ?_))
    refine wstS o24 fun h6 o6 k6 => ?_
    repeat (first | (with_reducible refine wbd (ldS (by assumption)) ?_))
    exact W.ret ⟨rfl, ((kk2.kbs (Nat.le_refl _) k3 l1).kbs (Nat.le_refl _) k4 l1).kbs (Nat.le_refl _) k6 (Nat.le_trans k1.1 l2)⟩

theorem winsWith_W {R C P T s m S : Nat} {xs : List Int} (hb : posB (R : Int) (C : Int) xs = true) (hbig : Big g) (hlf : 1000 < lf) (hP : P = 1 ∨ P = 2) (hT : T = 1 ∨ T = 2) (hS9 : S < 2 ^ 9) (N : Nat) (hN : 28 ≤ N) {h : PHeap} (hs : Sch R C h s m) (ht : Tab64 g h) :
    W (CL g lf N fn_impl_search_winsWith [.ptr s 0, stP (setL xs 0) (setL xs 1) (setL xs 2) T, .int .i64 (P : Int), .int .i64 (S : Int)] h) fun v h' => v = .bool (decide (winL (R : Int) (C : Int) (givenL xs (P : Int) S) (T : Int) = (P : Int))) ∧ Sch R C h' s m ∧ KB m h h' := by
  obtain ⟨n, rfl⟩ : ∃ n, N = n + 1 := ⟨N - 1, by omega⟩
  have hS := sides_pos hb
  have hB := board_of_sides hS
  have hb' := given_pos hP S hb
  have hS' := sides_pos hb'
  have h9 := hB.2.2.2.2
  have ex : ∀ h, CL g lf n fn_impl_exchanged [.int .i64 (P : Int)] h = some (.int .i64 ((3 - P : Nat) : Int), h) := fun h => exchanged_W g lf n (by omega) h hP
  rw [impl_search_winsWith.call_eq]
  unfold impl_search_winsWith.main
  simp only [env_C, env_box, env_load, env_bin]
  refine wboxS fun h1 id o1 k1 l1 => ?_
  have ex1 := ex h1
  repeat (first | with_reducible refine wbd (by assumption) ?_ | (with_reducible refine wbd (ldS (by assumption)) ?_) | (with_reducible refine wck plainS ?_) | dsimp only)
  refine wcall (filled_W g lf hP (fun w => set_lt9 hS w) hS9 n (by omega) h1) fun v h2 ⟨hv, k2⟩ => ?_
  subst hv
  have o2 := o1.keep k2
  have hs2 := (hs.keep k1).keep k2
  repeat (first | (with_reducible refine wbd (ldS (by assumption)) ?_) | (with_reducible refine wck plainS ?_) | dsimp only)
  refine wcall (sWinner_W g lf hB hbig hlf 9 _ _ _ _ n h2 (Nat.le_trans (fr_le _ _ _) h9) (stands_of hS' hT) (by omega) hs2 ((ht.keep k1).keep k2)) fun v h3 ⟨hv, hs3, k3⟩ => ?_
  subst hv
  have hml := hs.lt
  have o3 := o2.kb k3 (by omega)
  have kk : KB m h h3 := (Keep.kb (k1.trans (k2.mono k1.1))).trans k3
  rw [winL_eq hb' hT]
  by_cases hw : ((winN R C (setL (givenL xs (P : Int) S) 1) (setL (givenL xs (P : Int) S) 2) T : Nat) : Int) = (P : Int)
  · rw [decide_eq_true hw]
    repeat (first | with_reducible refine wrB ?_ | (with_reducible refine wbd (ldS (by assumption)) ?_) | (with_reducible refine wck plainS ?_) | with_reducible refine weqlT (by omega) ?_ | dsimp only)
    exact W.ret ⟨rfl, hs3, kk⟩
  · rw [decide_eq_false hw]
    repeat (first | with_reducible refine wrB ?_ | (with_reducible refine wbd (ldS (by assumption)) ?_) | (with_reducible refine wck plainS ?_) | with_reducible refine weqlF (by omega) ?_ | dsimp only)
    exact W.ret ⟨rfl, hs3, kk⟩

/-- A set of cells of a board. -/
theorem setOk_W {R C : Nat} (hB : BoardOf R C) (N : Nat) (hN : 1 ≤ N) (h : PHeap) (S : Int) :
    CL g lf N fn_impl_setOk [.int .i64 (R : Int), .int .i64 (C : Int), .int .i64 S] h = some (.bool (decide (0 ≤ S ∧ S < ((2 ^ (R * C) : Nat) : Int))), h) := by
  obtain ⟨n, rfl⟩ : ∃ n, N = n + 1 := ⟨N - 1, by omega⟩
  obtain ⟨b1, b2, b3, b4, h9⟩ := id hB
  have : W (CL g lf (n + 1) fn_impl_setOk [.int .i64 (R : Int), .int .i64 (C : Int), .int .i64 S] h) fun v h' => v = .bool (decide (0 ≤ S ∧ S < ((2 ^ (R * C) : Nat) : Int))) ∧ h' = h := by
    rw [impl_setOk.call_eq]
    unfold impl_setOk.main
    simp only [env_pick, env_bin]
    by_cases h0 : 0 ≤ S
    · obtain ⟨z, hz⟩ : ∃ z, z = R * C := ⟨_, rfl⟩
      rw [← hz] at h9
      by_cases h1 : S < ((2 ^ z : Nat) : Int)
      · rw [← hz, decide_eq_true (⟨h0, h1⟩ : 0 ≤ S ∧ S < ((2 ^ z : Nat) : Int))]
        rw [← Nat.one_shiftLeft] at h1
        repeat (first | with_reducible refine wg1 rfl ?_ | with_reducible refine wpT ?_ | with_reducible refine wpv ?_ | with_reducible refine wsm ?_ | with_reducible refine wrB ?_ | (with_reducible refine wmulZ hz (by omega) ?_) | with_reducible refine wshl (by omega) ?_ | with_reducible refine wlssT (by omega) ?_ | with_reducible refine wgeqT (by omega) ?_ | dsimp only)
        exact W.ret ⟨rfl, rfl⟩
      · rw [← hz, decide_eq_false (fun hh : 0 ≤ S ∧ S < ((2 ^ z : Nat) : Int) => h1 hh.2)]
        rw [← Nat.one_shiftLeft] at h1
        repeat (first | with_reducible refine wg1 rfl ?_ | with_reducible refine wpT ?_ | with_reducible refine wpv ?_ | with_reducible refine wsm ?_ | with_reducible refine wrB ?_ | (with_reducible refine wmulZ hz (by omega) ?_) | with_reducible refine wshl (by omega) ?_ | with_reducible refine wlssF (by omega) ?_ | with_reducible refine wgeqT (by omega) ?_ | dsimp only)
        exact W.ret ⟨rfl, rfl⟩
    · rw [decide_eq_false (fun hh : 0 ≤ S ∧ S < ((2 ^ (R * C) : Nat) : Int) => h0 hh.1)]
      repeat (first | with_reducible refine wg0 rfl ?_ | with_reducible refine wpF ?_ | with_reducible refine wsm ?_ | with_reducible refine wrB ?_ | with_reducible refine wgeqF (by omega) ?_ | dsimp only)
      exact W.ret ⟨rfl, rfl⟩
  obtain ⟨_, _, e, rfl, rfl⟩ := this
  exact e

theorem setWins_W (hbig : Big g) (hlf : 1000 < lf) (N : Nat) (hN : 30 ≤ N) (r c pl S t : Int) {xs : List Int} {p : PV} {h : PHeap} (ht : TabOk g h) (hp : IntSl .i64 h p xs) (hl : xs.length ≤ 2 ^ 35) (hf : xs.length < lf) (htt : playerB pl = true → ∃ T : Nat, t = (T : Int) ∧ (T = 1 ∨ T = 2)) :
    W (CL g lf N fn_impl_setWins [.int .i64 r, .int .i64 c, p, .int .i64 pl, .int .i64 t, .int .i64 S] h) fun v h' => v = .bool (okL r c xs pl S && decide (winL r c (givenL xs pl S.toNat) t = pl)) ∧ Keep h.length h h' := by
  obtain ⟨n, rfl⟩ : ∃ n, N = n + 1 := ⟨N - 1, by omega⟩
  have hpos := positionOk_N g lf n (by omega) r c hp (by omega) hf
  have hplay := playerOk_W g lf n (by omega) h pl
  unfold okL
  rw [impl_setWins.call_eq]
  unfold impl_setWins.main
  simp only [env_C, env_pick, env_un]
  cases hb : posB r c xs with
  | false =>
    rw [hb] at hpos
    repeat (first | with_reducible refine wT ?_ | with_reducible refine wg0 rfl ?_ | with_reducible refine wpT ?_ | with_reducible refine wnF ?_ | with_reducible refine wsm ?_ | with_reducible refine wrB ?_ | with_reducible refine wbd (by assumption) ?_ | dsimp only)
    exact W.ret ⟨rfl, Keep.refl _ _⟩
  | true =>
    rw [hb] at hpos
    cases hpl : playerB pl with
    | false =>
      rw [hpl] at hplay
      repeat (first | with_reducible refine wT ?_ | with_reducible refine wg1 rfl ?_ | with_reducible refine wg0 rfl ?_ | with_reducible refine wpT ?_ | with_reducible refine wpF ?_ | with_reducible refine wnT ?_ | with_reducible refine wnF ?_ | with_reducible refine wpv ?_ | with_reducible refine wsm ?_ | with_reducible refine wrB ?_ | with_reducible refine wbd (by assumption) ?_ | dsimp only)
      exact W.ret ⟨rfl, Keep.refl _ _⟩
    | true =>
      rw [hpl] at hplay
      obtain ⟨T, rfl, hT⟩ := htt hpl
      obtain ⟨R, C, hS⟩ := sides_of hb
      obtain ⟨P, rfl, hP⟩ := player_of hpl
      have hB := board_of_sides hS
      obtain ⟨rfl, rfl, _, _, _, _, h9, hlen, _⟩ := id hS
      have hso := setOk_W g lf hB n (by omega) h S
      rw [hlen]
      cases hso2 : decide (0 ≤ S ∧ S < ((2 ^ (R * C) : Nat) : Int)) with
      | false =>
        rw [hso2] at hso
        repeat (first | with_reducible refine wT ?_ | with_reducible refine wg1 rfl ?_ | with_reducible refine wpF ?_ | with_reducible refine wnT ?_ | with_reducible refine wnF ?_ | with_reducible refine wpv ?_ | with_reducible refine wsm ?_ | with_reducible refine wrB ?_ | with_reducible refine wbd (by assumption) ?_ | dsimp only)
        exact W.ret ⟨rfl, Keep.refl _ _⟩
      | true =>
        rw [hso2] at hso
        have hsb := of_decide_eq_true hso2
        obtain ⟨Z, rfl⟩ := Int.eq_ofNat_of_zero_le hsb.1
        have h22 : 2 ^ (R * C) ≤ 2 ^ 9 := Nat.pow_le_pow_right (by decide) h9
        have hZ : Z < 2 ^ 9 := by have := hsb.2; omega
        repeat (first | with_reducible refine wF ?_ | with_reducible refine wg1 rfl ?_ | with_reducible refine wpF ?_ | with_reducible refine wnT ?_ | with_reducible refine wpv ?_ | with_reducible refine wsm ?_ | with_reducible refine wbd (by assumption) ?_ | dsimp only)
        refine wcall (newSearch_W g lf hB n (by omega) hlf ht.1) fun v h1 ⟨s, m, hv, hs, k1, l1, l2⟩ => ?_
        subst hv
        repeat (first | dsimp only)
        refine wcall (standingOf_W g lf (hp.keep k1) (by omega) T n (by omega) hlf) fun v h2 ⟨hv, k2⟩ => ?_
        subst hv
        repeat (first | dsimp only)
        refine wcall (winsWith_W g lf hb hbig hlf hP hT hZ n (by omega) (hs.keep k2) ((ht.2.keep k1).keep k2)) fun v h3 ⟨hv, hs3, k3⟩ => ?_
        subst hv
        repeat (first | with_reducible refine wrB ?_ | dsimp only)
        exact W.ret ⟨rfl, (k1.trans (k2.mono k1.1)).kbs (Nat.le_refl _) k3 l2⟩

theorem swapI_other {pl : Int} (h : playerB pl = true) : swapI pl = 3 - pl ∧ ∃ T : Nat, swapI pl = (T : Int) ∧ (T = 1 ∨ T = 2) := by
  obtain ⟨P, rfl, hP⟩ := player_of h
  rcases hP with rfl | rfl
  · exact ⟨rfl, 2, rfl, .inr rfl⟩
  · exact ⟨rfl, 1, rfl, .inl rfl⟩

theorem carrierOkOk (hbig : Big g) (hlf : 1000 < lf) : CarrierOkOk g lf := by
  intro N hN r c pl S xs p h ht hp hl hf
  obtain ⟨n, rfl⟩ : ∃ n, N = n + 1 := ⟨N - 1, by omega⟩
  have ex := exchanged_N g lf n (by omega) h pl
  have : W (CL g lf (n + 1) fn_impl_CarrierOk [.int .i64 r, .int .i64 c, p, .int .i64 pl, .int .i64 S] h) fun v h' => v = .bool (carrierL r c xs pl S) ∧ Keep h.length h h' := by
    rw [impl_CarrierOk.call_eq]
    unfold impl_CarrierOk.main
    simp only [env_C]
    repeat (first | with_reducible refine wbd (by assumption) ?_ | dsimp only)
    refine wcall (setWins_W g lf hbig hlf n (by omega) r c pl S (swapI pl) ht hp hl hf (fun hpl => (swapI_other hpl).2)) fun v h1 ⟨hv, k1⟩ => ?_
    subst hv
    repeat (first | with_reducible refine wrB ?_ | dsimp only)
    refine W.ret ⟨?_, k1⟩
    unfold carrierL
    cases ho : okL r c xs pl S with
    | false => rfl
    | true =>
      have hpl : playerB pl = true := by unfold okL at ho; simp only [Bool.and_eq_true] at ho; exact ho.1.2
      rw [(swapI_other hpl).1]
  obtain ⟨_, h', e, rfl, k⟩ := this
  exact ⟨h', e, k⟩
theorem threatOkOk (hbig : Big g) (hlf : 1000 < lf) : ThreatOkOk g lf := by
  intro N hN r c pl S xs p h ht hp hl hf
  obtain ⟨n, rfl⟩ : ∃ n, N = n + 1 := ⟨N - 1, by omega⟩
  have : W (CL g lf (n + 1) fn_impl_ThreatOk [.int .i64 r, .int .i64 c, p, .int .i64 pl, .int .i64 S] h) fun v h' => v = .bool (threatL r c xs pl S) ∧ Keep h.length h h' := by
    rw [impl_ThreatOk.call_eq]
    unfold impl_ThreatOk.main
    simp only [env_C]
    refine wcall (setWins_W g lf hbig hlf n (by omega) r c pl S pl ht hp hl hf (fun hpl => player_of hpl)) fun v h1 ⟨hv, k1⟩ => ?_
    subst hv
    repeat (first | with_reducible refine wrB ?_ | dsimp only)
    exact W.ret ⟨rfl, k1⟩
  obtain ⟨_, h', e, rfl, k⟩ := this
  exact ⟨h', e, k⟩

/-! ### the least sets -/
theorem leastSet_W (hbig : Big g) (hlf : 1000 < lf) (N : Nat) (hN : 30 ≤ N) (r c pl t : Int) {xs : List Int} {p : PV} {h : PHeap} (ht : TabOk g h) (hp : IntSl .i64 h p xs) (hl : xs.length ≤ 2 ^ 35) (hf : xs.length < lf) (htt : playerB pl = true → ∃ T : Nat, t = (T : Int) ∧ (T = 1 ∨ T = 2))
    (ok : Nat → Bool) (hok : posB r c xs = true → playerB pl = true → ∀ S, S < 2 ^ xs.length → ok S = decide (winL r c (givenL xs pl S) t = pl)) :
    W (CL g lf N fn_impl_leastSet [.int .i64 r, .int .i64 c, p, .int .i64 pl, .int .i64 t] h) fun v h' => v = .int .i64 (if (posB r c xs && playerB pl) = true then leastI ok (cellsN (setL xs 0)) else -1) ∧ Keep h.length h h' := by
  obtain ⟨n, rfl⟩ : ∃ n, N = n + 1 := ⟨N - 1, by omega⟩
  have hpos := positionOk_N g lf n (by omega) r c hp (by omega) hf
  have hplay := playerOk_W g lf n (by omega) h pl
  rw [impl_leastSet.call_eq]
  unfold impl_leastSet.main
  simp only [env_C, env_lf, env_pick, env_alloc, env_load, env_store, env_un, env_fieldAddr, env_indexAddr, env_len]
  cases hb : posB r c xs with
  | false =>
    rw [hb] at hpos
    repeat (first | with_reducible refine wT ?_ | with_reducible refine wg0 rfl ?_ | with_reducible refine wpT ?_ | with_reducible refine wnF ?_ | with_reducible refine wsm ?_ | with_reducible refine wrI ?_ | with_reducible refine wbd (by assumption) ?_ | dsimp only)
    exact W.ret ⟨rfl, Keep.refl _ _⟩
  | true =>
    rw [hb] at hpos
    cases hpl : playerB pl with
    | false =>
      rw [hpl] at hplay
      repeat (first | with_reducible refine wT ?_ | with_reducible refine wg1 rfl ?_ | with_reducible refine wpF ?_ | with_reducible refine wnT ?_ | with_reducible refine wnF ?_ | with_reducible refine wpv ?_ | with_reducible refine wsm ?_ | with_reducible refine wrI ?_ | with_reducible refine wbd (by assumption) ?_ | dsimp only)
      exact W.ret ⟨rfl, Keep.refl _ _⟩
    | true =>
      rw [hpl] at hplay
      replace hok := hok hb hpl
      obtain ⟨T, rfl, hT⟩ := htt hpl
      obtain ⟨R, C, hS⟩ := sides_of hb
      obtain ⟨P, rfl, hP⟩ := player_of hpl
      have hB := board_of_sides hS
      obtain ⟨rfl, rfl, _, _, _, _, h9, hlen, _⟩ := id hS
      have hF9 := set_lt9 hS 0
      repeat (first | with_reducible refine wF ?_ | with_reducible refine wg1 rfl ?_ | with_reducible refine wpF ?_ | with_reducible refine wnT ?_ | with_reducible refine wpv ?_ | with_reducible refine wsm ?_ | with_reducible refine wbd (by assumption) ?_ | dsimp only)
      refine wcall (newSearch_W g lf hB n (by omega) hlf ht.1) fun v h1 ⟨s, m, hv, hs, k1, l1, l2⟩ => ?_
      subst hv
      repeat (first | dsimp only)
      refine wcall (standingOf_W g lf (hp.keep k1) (by omega) T n (by omega) hlf) fun v h2 ⟨hv, k2⟩ => ?_
      subst hv
      dsimp only
      refine walS fun h3 id o3 k3 l3 => ?_
      dsimp only
      refine wstS o3 fun h4 o4 k4 => ?_
      have hs4 := (hs.keep k2).keep k3
      have hne : id ≠ m := hs4.ne o3
      have hsl := (hs.keep k2).1.lt
      have hml2 := (hs.keep k2).lt
      have hs4' : Sch R C h4 s m := by
        obtain ⟨ha, es, hM, hmm⟩ := hs4
        exact ⟨ha.kb k4 (by omega), es, hM.kb k4 (by omega), hmm⟩
      have kk4 : Keep h.length h h4 := (((k1.trans (k2.mono k1.1)).trans (k3.mono (Nat.le_trans k1.1 k2.1)))).kbs (Nat.le_refl _) k4 (Nat.le_trans k1.1 (Nat.le_trans k2.1 l3))
      repeat (first | (with_reducible refine wbd (fSt0 _) ?_) | (with_reducible refine wia30 ?_) | (with_reducible refine wbd (ld1 (by assumption) rfl) ?_))
      refine wcall (partsBySize_W g lf hF9 hlf n (by omega) h4) fun q h5 ⟨ys, hperm, hsort, o5, k5⟩ => ?_
      have hly : ys.length ≤ 512 := by rw [hperm.length_eq]; exact partsN_most _
      have hlm : (ys.map fun x : Nat => (x : Int)).length = ys.length := List.length_map ..
      have hyl : ∀ y ∈ ys, y < 2 ^ xs.length := fun y hy => by
        have := part_lt hS (fun _ h => h) (hperm.mem_iff.1 hy)
        rwa [hlen]
      have h22 : 2 ^ xs.length ≤ 2 ^ 9 := Nat.pow_le_pow_right (by decide) (by omega)
      have hm4 := hs4'.lt
      repeat (first | with_reducible refine wlen (OwnSl.int (by assumption)) ?_ | dsimp only)
      refine loopW (fun z st => ∃ (ys1 ys2 : List Nat) (i : Nat) (h2 : PHeap), st = impl_leastSet.st0 (.int .i64 (P : Int)) (.ptr s 0) (.ptr id 0) q (.int .i64 ((ys.map fun x : Nat => (x : Int)).length : Int)) (.int .i64 (i : Int)) h2 ∧ z = ys2.length ∧ ys = ys1 ++ ys2 ∧ i = ys1.length ∧ (∀ y ∈ ys1, ok y = false) ∧ Sch R C h2 s m ∧ At h2 id (stC (setL xs 0) (setL xs 1) (setL xs 2) T) ∧ OwnSl h4.length h2 q (ys.map fun x : Nat => (x : Int)) ∧ KB m h5 h2) ?_ lf ys.length _ (by omega)
        ⟨[], ys, 0, h5, rfl, rfl, rfl, rfl, (by intro y hy; cases hy), hs4'.keep k5, o4.keep k5, o5, KB.refl _ _⟩
      rintro n1 z st ⟨ys1, ys2, i, h6, rfl, rfl, ey, hi, hno, hs6, o6, ol6, k6⟩ next
      have hkk : Keep h.length h h6 := (kk4.trans (k5.mono kk4.1)).kbs (Nat.le_refl _) k6 l2
      rw [impl_leastSet.body0_eq]
      unfold impl_leastSet.body0
      simp only [env_C, env_load, env_bin, env_indexAddr]
      cases ys2 with
      | nil =>
        rw [List.append_nil] at ey
        subst ey
        rw [if_pos (show (true && true) = true from rfl), least_no hF9 hperm hno]
        repeat (first | with_reducible refine wF ?_ | with_reducible refine wrI ?_ | with_reducible refine wlssF (by omega) ?_ | rw [kLoop_exit] | rw [impl_leastSet.after0_se0_3_11_12_34_35_36_37])
        exact W.ret ⟨rfl, hkk⟩
      | cons y ys2 =>
        have hil : i < (ys.map fun x : Nat => (x : Int)).length := by rw [hlm, ey, List.length_append, List.length_cons]; omega
        obtain ⟨a, ea, la⟩ := ol6.int.at' hil
        have hyi : (ys.map fun x : Nat => (x : Int))[i] = (y : Int) := by
          rw [List.getElem_map]
          congr 1
          subst hi
          simp [ey]
        rw [hyi] at la
        have hym : y ∈ ys := by rw [ey]; simp
        have hy9 : y < 2 ^ 9 := Nat.lt_of_lt_of_le (hyl y hym) h22
        have hoy := hok y (hyl y hym)
        have ht6 : Tab64 g h6 := by
          have t4 : Tab64 g h4 := (((ht.2.keep k1).keep k2).keep k3).at o3 k4
          exact (t4.keep k5).kb (hs4'.keep k5) k6
        repeat (first | with_reducible refine wT ?_ | with_reducible refine wbd (by assumption) ?_ | (with_reducible refine wbd (ldS (by assumption)) ?_) | with_reducible refine wlssT (by omega) ?_)
        refine wcall (winsWith_W g lf hb hbig hlf hP hT hy9 n (by omega) hs6 ht6) fun v h7 ⟨hv, hs7, k7⟩ => ?_
        subst hv
        cases hw : decide (winL (R : Int) (C : Int) (givenL xs (P : Int) y) (T : Int) = (P : Int)) with
        | true =>
          rw [hw] at hoy
          rw [ey] at hperm hsort
          rw [if_pos (show (true && true) = true from rfl), least_at hF9 hperm hsort hno hoy]
          repeat (first | with_reducible refine wT ?_ | with_reducible refine wrI ?_ | rw [kLoop_ret] | rw [impl_leastSet.K0_ret] | rw [impl_leastSet.top_sr_10] | dsimp only)
          exact W.ret ⟨rfl, hkk.kbs (Nat.le_refl _) k7 l2⟩
        | false =>
          rw [hw] at hoy
          repeat (first | with_reducible refine wF ?_ | with_reducible refine wadd1 (by omega) ?_ | dsimp only)
          exact next _ _ (by rw [List.length_cons]; omega) ⟨ys1 ++ [y], ys2, i + 1, h7, rfl, rfl, by rw [ey, List.append_assoc]; rfl, by rw [List.length_append, hi]; rfl, (by
            intro e he
            rcases List.mem_append.1 he with he | he
            · exact hno e he
            · rw [List.mem_singleton.1 he]; exact hoy), hs7, o6.kb k7 hne, ol6.kbo k7 hm4, k6.trans k7⟩

theorem leastCarrierOk (hbig : Big g) (hlf : 1000 < lf) : LeastCarrierOk g lf := by
  intro N hN r c pl xs p h ht hp hl hf
  obtain ⟨n, rfl⟩ : ∃ n, N = n + 1 := ⟨N - 1, by omega⟩
  have ex := exchanged_N g lf n (by omega) h pl
  have : W (CL g lf (n + 1) fn_impl_LeastCarrier [.int .i64 r, .int .i64 c, p, .int .i64 pl] h) fun v h' => v = .int .i64 (leastCarrierL r c xs pl) ∧ Keep h.length h h' := by
    rw [impl_LeastCarrier.call_eq]
    unfold impl_LeastCarrier.main
    simp only [env_C]
    repeat (first | with_reducible refine wbd (by assumption) ?_ | dsimp only)
    refine wcall (leastSet_W g lf hbig hlf n (by omega) r c pl (swapI pl) ht hp hl hf (fun hpl => (swapI_other hpl).2) (fun S => carrierL r c xs pl (S : Int)) (fun hb hpl S hS => ?_)) fun v h1 ⟨hv, k1⟩ => ?_
    · rw [(swapI_other hpl).1]
      unfold carrierL okL
      rw [hb, hpl, decide_eq_true (by omega : (0 : Int) ≤ (S : Int) ∧ (S : Int) < ((2 ^ xs.length : Nat) : Int))]
      simp
    · subst hv
      repeat (first | with_reducible refine wrI ?_ | dsimp only)
      exact W.ret ⟨rfl, k1⟩
  obtain ⟨_, h', e, rfl, k⟩ := this
  exact ⟨h', e, k⟩
theorem leastThreatOk (hbig : Big g) (hlf : 1000 < lf) : LeastThreatOk g lf := by
  intro N hN r c pl xs p h ht hp hl hf
  obtain ⟨n, rfl⟩ : ∃ n, N = n + 1 := ⟨N - 1, by omega⟩
  have : W (CL g lf (n + 1) fn_impl_LeastThreat [.int .i64 r, .int .i64 c, p, .int .i64 pl] h) fun v h' => v = .int .i64 (leastThreatL r c xs pl) ∧ Keep h.length h h' := by
    rw [impl_LeastThreat.call_eq]
    unfold impl_LeastThreat.main
    simp only [env_C]
    refine wcall (leastSet_W g lf hbig hlf n (by omega) r c pl pl ht hp hl hf (fun hpl => player_of hpl) (fun S => threatL r c xs pl (S : Int)) (fun hb hpl S hS => ?_)) fun v h1 ⟨hv, k1⟩ => ?_
    · unfold threatL okL
      rw [hb, hpl, decide_eq_true (by omega : (0 : Int) ≤ (S : Int) ∧ (S : Int) < ((2 ^ xs.length : Nat) : Int))]
      simp
    · subst hv
      repeat (first | with_reducible refine wrI ?_ | dsimp only)
      exact W.ret ⟨rfl, k1⟩
  obtain ⟨_, h', e, rfl, k⟩ := this
  exact ⟨h', e, k⟩

/-! ### cells that must be taken -/
/-! ### bridges -/
end Go.Proofs.YtmhflbomploidaaDoor

