/- Texts of this seat, in their order, put together by program. -/
import Derived.Test.YtihlmjapddjjjacDoorK9
set_option linter.unusedSimpArgs false
set_option linter.unusedVariables false
set_option linter.unusedSectionVars false
/- The program's nets: what is come to by wires, who has won, and the game with its map. -/
set_option maxRecDepth 20000
namespace Go.Proofs.YtihlmjapddjjjacDoor
open Go Go.Ip G

theorem TabT.t64 {g : Nat → PV} {h : PHeap} (t : TabT g h) : Tab64 g h := t
theorem TabOk.t64 {g : Nat → PV} {h : PHeap} (t : TabOk g h) : Tab64 g h := TabT.t64 t

theorem wia31 {Q : PV → PHeap → Prop} {id o : Nat} {F : PV → Res} (hf : W (F (.ptr id (o + 1))) Q) : W ((indexAddrP Tryd.prog 54 (.ptr id o) (.int .i64 1)).bind F) Q := wbd (ia3 id o 1 (by decide)) hf
theorem WSl.one {h : PHeap} {p : PV} {ws : List (Int × Int)} (s : WSl h p ws) : p.oneCell = true := by
  rcases s with ⟨rfl, _⟩ | ⟨id, off, rfl, _⟩ <;> rfl
theorem FixW.kb {b m : Nat} {h h' : PHeap} {p : PV} {ws : List (Int × Int)} (s : FixW b h p ws) (k : KB m h h') (hb : b ≤ m) (hm : m < h.length) : FixW b h' p ws := s.keep (k.keep hb (by omega))

variable (g : Nat → PV) (lf n : Nat)

/-! ### what is come to -/
theorem ends_meet {A B X : Nat} : ((1 <<< A ||| 1 <<< B) &&& X ≠ 0) ↔ (X.testBit A = true ∨ X.testBit B = true) := by
  constructor
  · intro h
    obtain ⟨j, hj⟩ := bit_of_ne h
    rw [Nat.testBit_and, Nat.testBit_or, one_bit, one_bit, Bool.and_eq_true, Bool.or_eq_true, decide_eq_true_eq, decide_eq_true_eq] at hj
    rcases hj with ⟨rfl | rfl, h2⟩
    · exact .inl h2
    · exact .inr h2
  · intro h e
    rcases h with h | h
    · have : ((1 <<< A ||| 1 <<< B) &&& X).testBit A = true := by rw [Nat.testBit_and, Nat.testBit_or, one_bit, h]; simp
      rw [e, Nat.zero_testBit] at this; cases this
    · have : ((1 <<< A ||| 1 <<< B) &&& X).testBit B = true := by rw [Nat.testBit_and, Nat.testBit_or, one_bit, one_bit, h]; simp
      rw [e, Nat.zero_testBit] at this; cases this
theorem pow58 {x m : Nat} (h : x < 2 ^ m) (hm : m ≤ 8) : x < 2 ^ 9 := Nat.lt_of_lt_of_le h (Nat.pow_le_pow_right (by decide) (by omega))

theorem beside_W {nodes : Nat} {vs : List (Nat × Nat)} (hn : NetN nodes vs) {p : PV} {h : PHeap} (hp : WSl h p (castW vs)) {S X : Nat} (hS : S < 2 ^ vs.length) (hX : X < 2 ^ 5) (hbig : Big g) (ht : Tab64 g h) (hlf : 1000 < lf) (N : Nat) (hN : 4 ≤ N) :
    W (CL g lf N fn_impl_nodesBeside [p, .int .i64 (S : Int), .int .i64 (X : Int)] h) fun v h' => ∃ B : Nat, v = .int .i64 (B : Int) ∧ B < 2 ^ 5 ∧
      (∀ j, B.testBit j = true ↔ ∃ k w, S.testBit k = true ∧ vs[k]? = some w ∧ (X.testBit w.1 = true ∨ X.testBit w.2 = true) ∧ (j = w.1 ∨ j = w.2)) ∧ Keep h.length h h' := by
  obtain ⟨n, rfl⟩ : ∃ n, N = n + 1 := ⟨N - 1, by omega⟩
  have h8 := hn.2.2.1
  have hS9 := pow58 hS h8
  have hnn := hn.2.1
  rw [impl_nodesBeside.call_eq]
  unfold impl_nodesBeside.main
  simp only [env_lf]
  refine loopW (fun m' st => ∃ (B r : Nat) (h1 : PHeap), st = impl_nodesBeside.st0 p (.int .i64 (X : Int)) (.int .i64 (B : Int)) (.int .i64 (r : Int)) h1 ∧ r < 2 ^ 9 ∧ B < 2 ^ 5 ∧ (∀ j, r.testBit j = true → S.testBit j = true) ∧
    (∀ j, B.testBit j = true ↔ ∃ k w, S.testBit k = true ∧ r.testBit k = false ∧ vs[k]? = some w ∧ (X.testBit w.1 = true ∨ X.testBit w.2 = true) ∧ (j = w.1 ∨ j = w.2)) ∧ Keep h.length h h1 ∧ m' = r) ?_ lf S _ (by omega)
    ⟨0, S, h, rfl, hS9, by decide, fun _ h => h, fun j => ⟨fun hh => (by rw [Nat.zero_testBit] at hh; cases hh), fun ⟨k, w, a, b, _⟩ => (by rw [a] at b; cases b)⟩, Keep.refl _ _, rfl⟩
  rintro n1 m1 st ⟨B, r, h1, rfl, hr, hB, hrS, hBb, k1, hm⟩ next
  rw [impl_nodesBeside.body0_eq]
  unfold impl_nodesBeside.body0
  simp only [env_C, env_alloc, env_load, env_store, env_bin, env_fieldAddr, env_indexAddr]
  by_cases e4 : r = 0
  · subst e4
    repeat (first | with_reducible refine wF ?_ | with_reducible refine wrI ?_ | with_reducible refine wneqF (by omega) ?_ | rw [kLoop_exit] | rw [impl_nodesBeside.after0_se0_0_2_7_8_13])
    refine W.ret ⟨B, rfl, hB, fun j => ?_, k1⟩
    rw [hBb]
    exact ⟨fun ⟨k, w, a, _, c⟩ => ⟨k, w, a, c⟩, fun ⟨k, w, a, c⟩ => ⟨k, w, a, Nat.zero_testBit _, c⟩⟩
  · have ht1 := ht.keep k1
    have el := leastIn_W g lf hr e4 hbig ht1 n (by omega)
    obtain ⟨c1, c2, c3, c4⟩ := low_ok hr e4
    obtain ⟨d1, d2⟩ := f_drop hr e4
    have hlt := without_less hr e4
    have hwl := without_lt9 (k := lowN r) hr
    obtain ⟨k, hk⟩ : ∃ k, k = lowN r := ⟨_, rfl⟩
    rw [← hk] at el c1 c2 d2 hlt hwl
    have hkS := hrS k c1
    have hkl : k < vs.length := bit_small hS hkS
    have hkc : k < (castW vs).length := by rw [castW_length]; exact hkl
    obtain ⟨id, off, e0, l0, _, _⟩ := (hp.keep k1).at hkc
    rw [castW_get hkc hkl] at l0
    dsimp only at l0
    have hgk : vs[k]? = some vs[k] := List.getElem?_eq_getElem hkl
    have hmem := hn.2.2.2 _ (List.mem_of_getElem? hgk)
    obtain ⟨⟨E, F⟩, hw⟩ : ∃ w, w = vs[k] := ⟨_, rfl⟩
    rw [← hw] at l0 hgk hmem
    dsimp only at l0 hmem
    have hE : E < 5 := by omega
    have hF : F < 5 := by omega
    have hE5 : 1 <<< E < 2 ^ 5 := by rw [Nat.one_shiftLeft]; exact Nat.pow_lt_pow_right (by decide) hE
    have hF5 : 1 <<< F < 2 ^ 5 := by rw [Nat.one_shiftLeft]; exact Nat.pow_lt_pow_right (by decide) hF
    have hEF : 1 <<< E ||| 1 <<< F < 2 ^ 5 := Nat.or_lt_two_pow hE5 hF5
    have hmeet := ends_meet (A := E) (B := F) (X := X)
    repeat (first | with_reducible refine wT ?_ | with_reducible refine wbd (by assumption) ?_ | (refine walW fun h2 i2 a2 k2 ii2 => ?_) | (refine wstW a2 ii2 fun h3 a3 k3 hl3 => ?_) | with_reducible refine wneqT (by omega) ?_ | dsimp only)
    have l3 := a3.l0
    have l4 := a3.l1
    have K3 : Keep h.length h h3 := k1.trans ((k2.trans k3).mono k1.1)
    have hrw : ∀ j, (without r k).testBit j = true → S.testBit j = true := fun j hj => by
      rw [without_bit, Bool.and_eq_true] at hj; exact hrS j hj.1
    obtain ⟨Z, hZ⟩ : ∃ Z, Z = 1 <<< E ||| 1 <<< F := ⟨_, rfl⟩
    have hZb : ∀ j, Z.testBit j = true ↔ (j = E ∨ j = F) := fun j => by rw [hZ, Nat.testBit_or, one_bit, one_bit, Bool.or_eq_true, decide_eq_true_eq, decide_eq_true_eq]
    repeat (first | with_reducible refine wbd (by assumption) ?_ | (with_reducible refine wfa0 ?_) | (with_reducible refine wfa1 ?_) | with_reducible refine wshl (by omega) ?_ | with_reducible refine wand (by omega) (by omega) ?_ | with_reducible refine wor (by omega) (by omega) ?_)
    rw [← hZ] at hEF hmeet ⊢
    obtain ⟨Y, hY⟩ : ∃ Y, Y = Z &&& X := ⟨_, rfl⟩
    skip
    rw [← hY] at hmeet ⊢
    refine wneq (fun e5 => ?_) (fun e5 => ?_)
    · have hm5 := hmeet.1 (by omega)
      have hBZ : B ||| Z < 2 ^ 5 := Nat.or_lt_two_pow hB hEF
      repeat (first | with_reducible refine wT ?_ | with_reducible refine wbd (by assumption) ?_ | with_reducible refine wor (by omega) (by omega) ?_)
      refine next _ _ (hm ▸ hlt) ⟨B ||| Z, _, h3, rfl, hwl, hBZ, hrw, fun j => ?_, K3, rfl⟩
      rw [Nat.testBit_or, Bool.or_eq_true, hBb, hZb]
      constructor
      · rintro (⟨i, w, x1, x2, x3⟩ | hj)
        · exact ⟨i, w, x1, by rw [without_bit, x2]; rfl, x3⟩
        · exact ⟨k, (E, F), hkS, by rw [without_bit]; simp, hgk, hm5, hj⟩
      · rintro ⟨i, w, x1, x2, x3, x4, x5⟩
        by_cases hik : i = k
        · subst hik
          rw [hgk] at x3
          cases x3
          exact .inr x5
        · rw [without_bit] at x2
          simp only [ne_eq, hik, not_false_eq_true, decide_true, Bool.and_true] at x2
          exact .inl ⟨i, w, x1, x2, x3, x4, x5⟩
    · have hm5 : ¬ (X.testBit E = true ∨ X.testBit F = true) := fun hh => hmeet.2 hh (by omega)
      repeat (first | with_reducible refine wF ?_ | with_reducible refine wbd (by assumption) ?_)
      refine next _ _ (hm ▸ hlt) ⟨B, _, h3, rfl, hwl, hB, hrw, fun j => ?_, K3, rfl⟩
      rw [hBb]
      constructor
      · rintro ⟨i, w, x1, x2, x3⟩
        exact ⟨i, w, x1, by rw [without_bit, x2]; rfl, x3⟩
      · rintro ⟨i, w, x1, x2, x3, x4, x5⟩
        by_cases hik : i = k
        · subst hik
          rw [hgk] at x3
          cases x3
          exact absurd x4 hm5
        · rw [without_bit] at x2
          simp only [ne_eq, hik, not_false_eq_true, decide_true, Bool.and_true] at x2
          exact ⟨i, w, x1, x2, x3, x4, x5⟩

theorem reached_W {nodes : Nat} {vs : List (Nat × Nat)} (hn : NetN nodes vs) {p : PV} {h : PHeap} (hp : WSl h p (castW vs)) {S : Nat} (hS : S < 2 ^ vs.length) (hbig : Big g) (ht : Tab64 g h) (hlf : 1000 < lf) (N : Nat) (hN : 5 ≤ N) :
    W (CL g lf N fn_impl_nodesReached [p, .int .i64 (S : Int), .int .i64 1] h) fun v h' => v = .int .i64 ((reachW vs S 0 : Nat) : Int) ∧ Keep h.length h h' := by
  obtain ⟨n, rfl⟩ : ∃ n, N = n + 1 := ⟨N - 1, by omega⟩
  have h0 : 0 < nodes := by have := hn.1; omega
  have hc1 : ∀ j, (1 : Nat).testBit j = true → Conn vs S 0 j := fun j hj => by
    have : (1 <<< 0).testBit j = true := hj
    rw [one_bit, decide_eq_true_eq] at this
    rw [this]; exact .refl
  rw [impl_nodesReached.call_eq]
  unfold impl_nodesReached.main
  simp only [env_lf]
  refine loopW (fun m' st => ∃ (X w : Nat) (h1 : PHeap), st = impl_nodesReached.st0 p (.int .i64 (S : Int)) (.int .i64 (X : Int)) (.int .i64 (w : Int)) h1 ∧ X < 2 ^ 5 ∧ (∀ j, w.testBit j = true → X.testBit j = true) ∧ X.testBit 0 = true ∧ (∀ j, X.testBit j = true → Conn vs S 0 j) ∧
    (∀ k u, S.testBit k = true → vs[k]? = some u → (X.testBit u.1 = true → w.testBit u.1 = false → X.testBit u.2 = true) ∧ (X.testBit u.2 = true → w.testBit u.2 = false → X.testBit u.1 = true)) ∧ Keep h.length h h1 ∧ m' = (32 - X) + (if w = 0 then 0 else 1)) ?_ lf 32 _ (by omega)
    ⟨1, 1, h, rfl, by decide, fun _ h => h, by decide, hc1, fun k u _ _ => ⟨fun a b => (by rw [a] at b; cases b), fun a b => (by rw [a] at b; cases b)⟩, Keep.refl _ _, rfl⟩
  rintro n1 m1 st ⟨X, w, h1, rfl, hX, hw, hX0, hXc, hcl, k1, hm⟩ next
  rw [impl_nodesReached.body0_eq]
  unfold impl_nodesReached.body0
  simp only [env_C, env_bin]
  by_cases e : w = 0
  · subst e
    have hXr : X = reachW vs S 0 := by
      apply Nat.eq_of_testBit_eq
      intro j
      rw [Bool.eq_iff_iff, reach_bit hn h0]
      refine ⟨hXc j, fun hc => ?_⟩
      induction hc with
      | refl => exact hX0
      | fwd _ hu hs e ih => subst e; exact (hcl _ _ hs hu).1 ih (Nat.zero_testBit _)
      | bwd _ hu hs e ih => subst e; exact (hcl _ _ hs hu).2 ih (Nat.zero_testBit _)
    repeat (first | with_reducible refine wF ?_ | with_reducible refine wrI ?_ | with_reducible refine wneqF (by omega) ?_ | rw [kLoop_exit] | rw [impl_nodesReached.after0_se0_0_1_2_7_10])
    exact W.ret ⟨by rw [hXr], k1⟩
  · have hw5 : w < 2 ^ 5 := Nat.lt_of_le_of_lt (sub_le hw) hX
    repeat (first | with_reducible refine wT ?_ | with_reducible refine wneqT (by omega) ?_)
    refine wcall (beside_W g lf hn (hp.keep k1) hS hw5 hbig (ht.keep k1) hlf n (by omega)) fun v h2 ⟨B, hv, hB, hBb, k2⟩ => ?_
    subst hv
    have hml : minusN B X < 2 ^ 5 := minusN_lt hB
    repeat (first | with_reducible refine wor (by omega) (by omega) ?_ | with_reducible refine wandNot (by omega) (by omega) ?_ | dsimp only)
    obtain ⟨w', hw'⟩ : ∃ w', w' = minusN B X := ⟨_, rfl⟩
    have hb : ∀ j, w'.testBit j = true ↔ B.testBit j = true ∧ X.testBit j = false := fun j => by
      rw [hw', minusN_bit, Bool.and_eq_true, Bool.not_eq_true']
    rw [← hw'] at hml ⊢
    have hor : X ||| w' < 2 ^ 5 := Nat.or_lt_two_pow hX hml
    have hle : X ≤ X ||| w' := Nat.left_le_or
    have hne : w' ≠ 0 → X ≠ X ||| w' := fun hz he => by
      obtain ⟨j, hj⟩ := bit_of_ne hz
      have h1 := ((hb j).1 hj).2
      rw [he, Nat.testBit_or, hj, Bool.or_true] at h1; cases h1
    have inX : ∀ j, B.testBit j = true → (X ||| w').testBit j = true := fun j hj => by
      rw [Nat.testBit_or]
      cases e2 : X.testBit j with
      | true => rfl
      | false => rw [(hb j).2 ⟨hj, e2⟩]; rfl
    refine next _ _ ?_ ⟨X ||| w', w', h2, rfl, hor, fun j hj => by rw [Nat.testBit_or, hj, Bool.or_true], by rw [Nat.testBit_or, hX0]; rfl, fun j hj => ?_, fun k u hs hu => ?_, k1.trans (k2.mono k1.1), rfl⟩
    · rw [hm, if_neg e]
      by_cases e' : w' = 0
      · rw [if_pos e']; omega
      · rw [if_neg e']; have := hne e'; omega
    · rw [Nat.testBit_or, Bool.or_eq_true] at hj
      rcases hj with hj | hj
      · exact hXc j hj
      · obtain ⟨k, u, x1, x2, x3, x4⟩ := (hBb j).1 ((hb j).1 hj).1
        rcases x3 with x3 | x3
        · have hc := hXc _ (hw _ x3)
          rcases x4 with rfl | rfl
          · exact hc
          · exact .fwd hc x2 x1 rfl
        · have hc := hXc _ (hw _ x3)
          rcases x4 with rfl | rfl
          · exact .bwd hc x2 x1 rfl
          · exact hc
    · constructor
      · intro y1 y2
        rw [Nat.testBit_or, y2, Bool.or_false] at y1
        cases e3 : w.testBit u.1 with
        | true => exact inX _ ((hBb _).2 ⟨k, u, hs, hu, .inl e3, .inr rfl⟩)
        | false => rw [Nat.testBit_or, (hcl k u hs hu).1 y1 e3]; rfl
      · intro y1 y2
        rw [Nat.testBit_or, y2, Bool.or_false] at y1
        cases e3 : w.testBit u.2 with
        | true => exact inX _ ((hBb _).2 ⟨k, u, hs, hu, .inr e3, .inl rfl⟩)
        | false => rw [Nat.testBit_or, (hcl k u hs hu).2 y1 e3]; rfl

theorem and_two (x : Nat) : x &&& 2 = 0 ↔ x.testBit 1 = false := by
  constructor
  · intro h
    have : (x &&& 2).testBit 1 = false := by rw [h]; rfl
    rw [Nat.testBit_and, show (2 : Nat).testBit 1 = true by decide, Bool.and_true] at this
    exact this
  · intro h
    apply Nat.eq_of_testBit_eq
    intro j
    rw [Nat.testBit_and, Nat.zero_testBit]
    have h2 : (2 : Nat).testBit j = decide (j = 1) := one_bit 1 j
    rw [h2]
    by_cases hj : j = 1
    · subst hj; rw [h]; rfl
    · simp [hj]
theorem linked_W {nodes : Nat} {vs : List (Nat × Nat)} (hn : NetN nodes vs) {p : PV} {h : PHeap} (hp : WSl h p (castW vs)) {S : Nat} (hS : S < 2 ^ vs.length) (hbig : Big g) (ht : Tab64 g h) (hlf : 1000 < lf) (N : Nat) (hN : 6 ≤ N) :
    ∃ h', CL g lf N fn_impl_linked [p, .int .i64 (S : Int)] h = some (.bool (linkW vs S), h') ∧ Keep h.length h h' := by
  obtain ⟨n, rfl⟩ : ∃ n, N = n + 1 := ⟨N - 1, by omega⟩
  have h0 : 0 < nodes := by have := hn.1; omega
  have hlt := reachW_lt hn (set := S) h0
  have h5 : reachW vs S 0 < 2 ^ 5 := Nat.lt_of_lt_of_le hlt (Nat.pow_le_pow_right (by decide) hn.2.1)
  have : W (CL g lf (n + 1) fn_impl_linked [p, .int .i64 (S : Int)] h) fun v h' => v = .bool (linkW vs S) ∧ Keep h.length h h' := by
    rw [impl_linked.call_eq]
    unfold impl_linked.main
    simp only [env_C, env_bin]
    refine wcall (reached_W g lf hn hp hS hbig ht hlf n (by omega)) fun v h1 ⟨hv, k1⟩ => ?_
    subst hv
    have hz := and_two (reachW vs S 0)
    unfold linkW
    obtain ⟨X, hX⟩ : ∃ X, X = reachW vs S 0 := ⟨_, rfl⟩
    rw [← hX] at hz h5 ⊢
    dsimp only
    refine wand (x := X) (y := 2) (by omega) (by decide) ?_
    cases hb : X.testBit 1 with
    | true =>
      have : ¬ X &&& 2 = 0 := fun hh => by rw [hz, hb] at hh; cases hh
      obtain ⟨Y, hY⟩ : ∃ Y, Y = X &&& 2 := ⟨_, rfl⟩
      rw [← hY] at this ⊢
      repeat (first | with_reducible refine wrB ?_ | with_reducible refine wneqT (by omega) ?_)
      exact W.ret ⟨rfl, k1⟩
    | false =>
      have := hz.2 hb
      obtain ⟨Y, hY⟩ : ∃ Y, Y = X &&& 2 := ⟨_, rfl⟩
      rw [← hY] at this ⊢
      repeat (first | with_reducible refine wrB ?_ | with_reducible refine wneqF (by omega) ?_)
      exact W.ret ⟨rfl, k1⟩
  obtain ⟨_, h', e, rfl, k⟩ := this
  exact ⟨h', e, k⟩

theorem wonBy_W {nodes : Nat} {vs : List (Nat × Nat)} (hn : NetN nodes vs) {p : PV} {h : PHeap} (hp : WSl h p (castW vs)) {f a b t : Nat} (hst : StandsW vs.length f a b t) (hbig : Big g) (ht : Tab64 g h) (hlf : 1000 < lf) (N : Nat) (hN : 7 ≤ N) :
    ∃ h', CL g lf N fn_impl_wonBy [p, .int .i64 (a : Int), .int .i64 (f : Int)] h = some (.int .i64 ((doneN vs a b : Nat) : Int), h') ∧ Keep h.length h h' := by
  obtain ⟨n, rfl⟩ : ∃ n, N = n + 1 := ⟨N - 1, by omega⟩
  have h8 := hn.2.2.1
  have hof := own_freeW hst
  have hb2 := hst.1.2.1
  have ha9 := pow58 hst.1.1 h8
  have hf9 := hst.2.1
  have h22 := Nat.two_pow_pos vs.length
  obtain ⟨h1, e1, k1⟩ := linked_W g lf hn hp hst.1.1 hbig ht hlf n (by omega)
  obtain ⟨h2, e2, k2⟩ := linked_W g lf hn (hp.keep k1) (show a ||| f < 2 ^ vs.length by rw [hof]; omega) hbig (ht.keep k1) hlf n (by omega)
  have : W (CL g lf (n + 1) fn_impl_wonBy [p, .int .i64 (a : Int), .int .i64 (f : Int)] h) fun v h' => v = .int .i64 ((doneN vs a b : Nat) : Int) ∧ Keep h.length h h' := by
    unfold doneN cutW
    rw [← hof]
    rw [impl_wonBy.call_eq]
    unfold impl_wonBy.main
    simp only [env_C, env_bin, env_un]
    cases hl : linkW vs a with
    | true =>
      rw [hl] at e1
      repeat (first | with_reducible refine wT ?_ | with_reducible refine wrI ?_ | with_reducible refine wbd (by assumption) ?_ | dsimp only | simp only [env_C, env_Y, env_g, env_lf, env_pick, env_alloc, env_box, env_build, env_buildSlice, env_load, env_store, env_ptr, env_bin, env_un, env_conv, env_make, env_slice, env_fieldAddr, env_field, env_indexAddr, env_index, env_extract, env_len, env_append, env_max, env_min, env_makeMap, env_lookup, env_update, env_clos, env_bstr])
      exact W.ret ⟨rfl, k1⟩
    | false =>
      rw [hl] at e1
      cases hl2 : linkW vs (a ||| f) with
      | true =>
        rw [hl2] at e2
        repeat (first | with_reducible refine wF ?_ | with_reducible refine wnT ?_ | with_reducible refine wrI ?_ | with_reducible refine wbd (by assumption) ?_ | with_reducible refine wor (by omega) (by omega) ?_ | dsimp only)
        exact W.ret ⟨rfl, k1.trans (k2.mono k1.1)⟩
      | false =>
        rw [hl2] at e2
        repeat (first | with_reducible refine wT ?_ | with_reducible refine wF ?_ | with_reducible refine wnF ?_ | with_reducible refine wrI ?_ | with_reducible refine wbd (by assumption) ?_ | with_reducible refine wor (by omega) (by omega) ?_ | dsimp only)
        exact W.ret ⟨rfl, k1.trans (k2.mono k1.1)⟩
  obtain ⟨_, h', e, rfl, k⟩ := this
  exact ⟨h', e, k⟩

/-! ### the game's map -/
/-- Every entry of the map tells who wins. -/
def GMemo (vs : List (Nat × Nat)) (es : List (PV × PV)) : Prop := ∀ p ∈ es, ∃ f a b t, StandsW vs.length f a b t ∧ p = (stP f a b t, .int .i64 (gWin vs.length (linkW vs) (cutW vs) a b t : Int))
theorem gmemo_find {vs : List (Nat × Nat)} {f a b t : Nat} : ∀ {es : List (PV × PV)} {v : PV}, GMemo vs es → findM es (stP f a b t) = some v → v = .int .i64 (gWin vs.length (linkW vs) (cutW vs) a b t : Int)
  | [], v, _, h => by cases h
  | p :: es, v, hm, h => by
    obtain ⟨f', a', b', t', _, rfl⟩ := hm p (by simp)
    unfold findM at h
    cases e : eqK (stP f' a' b' t') (stP f a b t) with
    | true =>
      rw [e] at h
      obtain ⟨_, rfl, rfl, rfl⟩ := eqK_st e
      cases h; rfl
    | false =>
      rw [e] at h
      exact gmemo_find (fun q hq => hm q (by simp [hq])) h
theorem gmemo_put {vs : List (Nat × Nat)} {f a b t : Nat} (hs : StandsW vs.length f a b t) : ∀ {es : List (PV × PV)}, GMemo vs es → GMemo vs (putM es (stP f a b t) (.int .i64 (gWin vs.length (linkW vs) (cutW vs) a b t : Int)))
  | [], _ => fun p hp => by
    simp only [putM, List.mem_singleton] at hp
    exact ⟨f, a, b, t, hs, hp⟩
  | p :: es, hm => by
    obtain ⟨f', a', b', t', hs', rfl⟩ := hm p (by simp)
    have hr : GMemo vs es := fun q hq => hm q (by simp [hq])
    unfold putM
    cases e : eqK (stP f' a' b' t') (stP f a b t) with
    | true =>
      obtain ⟨rfl, rfl, rfl, rfl⟩ := eqK_st e
      intro q hq
      rcases List.mem_cons.1 hq with rfl | hq
      · exact ⟨f', a', b', t', hs, rfl⟩
      · exact hr q hq
    | false =>
      intro q hq
      rcases List.mem_cons.1 hq with rfl | hq
      · exact ⟨f', a', b', t', hs', rfl⟩
      · exact gmemo_put hs hr q hq
theorem isKey_stW {n f a b t : Nat} (h8 : n ≤ 8) (hs : StandsW n f a b t) : isKeyP Tryd.prog 56 (stP f a b t) = true := by
  have l9 := hs.lt9 h8
  obtain ⟨hp, hf, _, ht⟩ := hs
  obtain ⟨D, hD⟩ : ∃ D, Tryd.prog.types.size + 1 = D + 3 := ⟨Tryd.prog.types.size - 2, by have := Nat.le_of_ble_eq_true tySz; omega⟩
  obtain ⟨L, hL⟩ := lits_st (D := D) hf l9.1 l9.2 (show t < 2 ^ 9 by omega)
  have hk : keyV (stP f a b t) = some (.agg #[.int .i64 (f : Int), .int .i64 (a : Int), .int .i64 (b : Int), .int .i64 (t : Int)]) := rfl
  have hfo : (Value.agg #[.int .i64 (f : Int), .int .i64 (a : Int), .int .i64 (b : Int), .int .i64 (t : Int)]).formed Tryd.prog 56 = true := by
    simp [Value.formed, stU, ce4]
  unfold isKeyP
  rw [hk]
  simp only [keyOf, stU, stK, hfo, Bool.and_self, if_true, hD, Value.cells, hL, Option.map_some, Option.isSome_some]
theorem gkeys_memo {vs : List (Nat × Nat)} {es : List (PV × PV)} (h8 : vs.length ≤ 8) (hm : GMemo vs es) {f a b t : Nat} (hs : StandsW vs.length f a b t) : keysB Tryd.prog 56 es (stP f a b t) = true := by
  unfold keysB
  rw [keyedSt, isKey_stW h8 hs, Bool.and_self, Bool.true_and, List.all_eq_true]
  intro p hp
  obtain ⟨f', a', b', t', hs', rfl⟩ := hm p hp
  exact isKey_stW h8 hs'
theorem glook_st {vs : List (Nat × Nat)} {m : Nat} {es : List (PV × PV)} {h : PHeap} (h8 : vs.length ≤ 8) (hM : MapAt h m es) (hm : GMemo vs es) {f a b t : Nat} (hs : StandsW vs.length f a b t) :
    lookupP Tryd.prog 49 (.mapv m) (stP f a b t) true h = some (foundP true (.int .i64 0) (findM es (stP f a b t))) := by
  have hk := gkeys_memo h8 hm hs
  have hma : mapAt h m = some es := by unfold mapAt; rw [show h[m]? = some (.mp es) from hM]
  simp only [lookupP, tyMp, hma, zeroInt, hk, cond_true]
theorem gupd_st {vs : List (Nat × Nat)} {m : Nat} {es : List (PV × PV)} {h : PHeap} (h8 : vs.length ≤ 8) (hM : MapAt h m es) (hm : GMemo vs es) {f a b t : Nat} (hs : StandsW vs.length f a b t) (x : Int) :
    updateP Tryd.prog 49 (.mapv m) (stP f a b t) (.int .i64 x) h = some (h.set m (.mp (putM es (stP f a b t) (.int .i64 x)))) := by
  have hk := gkeys_memo h8 hm hs
  have hma : mapAt h m = some es := by unfold mapAt; rw [show h[m]? = some (.mp es) from hM]
  simp only [updateP, tyMp, hma, hk, PV.oneCell, Bool.and_self, cond_true]

/-! ### the pair of wires and map -/
def gmC (p : PV) (m : Nat) : List PV := [p, .mapv m]
def gmP (p : PV) (m : Nat) : PV := .agg (gmC p m)
theorem tyGmA : isAggT Tryd.prog 51 = some true := by kernel_rfl
theorem tyGm2 : sizeT Tryd.prog 51 = some 2 := by kernel_rfl
theorem tyGmZ : zeroCellsT Tryd.prog 51 = some [.nilsl, .junk] := by kernel_rfl
theorem twsA : isAggT Tryd.prog 26 = some false := by kernel_rfl
theorem fG0 (id : Nat) : fieldAddrP Tryd.prog 51 (.ptr id 0) 0 = some (.ptr id 0) := by kernel_rfl
theorem fG1 (id : Nat) : fieldAddrP Tryd.prog 51 (.ptr id 0) 1 = some (.ptr id 1) := by kernel_rfl
theorem ldW1 {h : PHeap} {id : Nat} {p : PV} {l : List PV} (a : At h id (p :: l)) : loadP Tryd.prog 26 (.ptr id 0) h = some p := by
  simp [loadP, twsA, cellsAt, show h[id]? = some (.own 1 (p :: l)) from a, PObj.get]
theorem ldGW {h : PHeap} {id m : Nat} {p : PV} (_ : p.oneCell = true) (a : At h id (gmC p m)) : loadP Tryd.prog 26 (.ptr id 0) h = some p := ldW1 a
theorem ldGM {h : PHeap} {id m : Nat} {p : PV} (a : At h id (gmC p m)) : loadP Tryd.prog 49 (.ptr id 1) h = some (.mapv m) := ldM a rfl
theorem ldG {h : PHeap} {id m : Nat} {p : PV} (_ : p.oneCell = true) (a : At h id (gmC p m)) : loadP Tryd.prog 51 (.ptr id 0) h = some (gmP p m) := by
  simp [loadP, tyGmA, tyGm2, cellsAt, show h[id]? = some (.own 1 (gmC p m)) from a, PObj.get, gmC, gmP]
theorem boxG (h : PHeap) (m : Nat) {p : PV} (hone : p.oneCell = true) : boxP (gmP p m) h = some (.ptr h.length 0, h ++ [.own 1 (gmC p m)]) := by
  have : (PV.mapv m).oneCell = true := rfl
  simp [boxP, gmP, gmC, PV.cells, hone, this]
theorem plainG {p : PV} {m : Nat} (h : plain1 p p = true) : plainEq (gmP p m) (gmP p m) = true := by
  show (plain1 p p && (plain1 (.mapv m) (.mapv m) && true)) = true
  rw [h]; simp [plain1]
theorem bldG {h : PHeap} {p : PV} {ws : List (Int × Int)} (s : WSl h p ws) (m : Nat) : buildP Tryd.prog 51 [(0, p), (1, .mapv m)] = some (gmP p m) := by
  rcases s with ⟨rfl, _⟩ | ⟨id, off, rfl, _⟩
  · kernel_rfl
  · kernel_rfl
theorem alG (h : PHeap) : allocP Tryd.prog 51 h = some (.ptr h.length 0, h ++ [.own 1 [.nilsl, .junk]]) := by simp [allocP, tyGmZ]
theorem stG {h : PHeap} {id m : Nat} {p : PV} {l : List PV} (hone : p.oneCell = true) (o : At h id l) (hl : l.length = 2) : storeP Tryd.prog 51 (.ptr id 0) (gmP p m) h = some (h.set id (.own 1 (gmC p m))) := by
  have hm : (PV.mapv m).oneCell = true := rfl
  match l, hl with
  | [x, y], _ => simp [storeP, show h[id]? = some (.own 1 [x, y]) from o, gmP, gmC, PV.cells, hone, hm, tyGm2, setCells]
section
variable {Q : PV → PHeap → Prop} {h : PHeap} {id m : Nat} {p : PV}
theorem wboxG (hone : p.oneCell = true) {F : PV × PHeap → Res} (hf : ∀ h' id, At h' id (gmC p m) → Keep h.length h h' → h.length ≤ id → W (F (.ptr id 0, h')) Q) : W ((boxP (gmP p m) h).bind F) Q := wnew (boxG h m hone) hf
theorem walG {F : PV × PHeap → Res} (hf : ∀ h' id, At h' id [.nilsl, .junk] → Keep h.length h h' → h.length ≤ id → W (F (.ptr id 0, h')) Q) : W ((allocP Tryd.prog 51 h).bind F) Q := wnew (alG h) hf
theorem wstG {l : List PV} (hone : p.oneCell = true) (o : At h id l) (hl : l.length = 2) {F : PHeap → Res} (hf : ∀ h', At h' id (gmC p m) → KB id h h' → W (F h') Q) : W ((storeP Tryd.prog 51 (.ptr id 0) (gmP p m) h).bind F) Q := by
  rw [stG hone o hl]; exact hf _ (put_at o).1 (put_at o).2
end

/-- The map of a game, right in every entry. -/
def GSch (vs : List (Nat × Nat)) (h : PHeap) (m : Nat) : Prop := ∃ es, MapAt h m es ∧ GMemo vs es
theorem GSch.keep {vs : List (Nat × Nat)} {m : Nat} {h h' : PHeap} (hs : GSch vs h m) (k : Keep h.length h h') : GSch vs h' m := by
  obtain ⟨es, b, c⟩ := hs; exact ⟨es, b.keep k, c⟩
theorem GSch.ne {vs : List (Nat × Nat)} {m id : Nat} {h : PHeap} {l : List PV} (hs : GSch vs h m) (a : At h id l) : id ≠ m := by
  obtain ⟨es, b, _⟩ := hs; exact a.ne b
theorem GSch.lt {vs : List (Nat × Nat)} {m : Nat} {h : PHeap} (hs : GSch vs h m) : m < h.length := by
  obtain ⟨es, b, _⟩ := hs; exact b.lt
theorem Tab64.kbg {g : Nat → PV} {vs : List (Nat × Nat)} {m : Nat} {h h' : PHeap} (t : Tab64 g h) (hs : GSch vs h m) (k : KB m h h') : Tab64 g h' := fun id e => by
  have ho := t id e
  obtain ⟨es, b, _⟩ := hs
  rw [k.2 id (List.getElem?_eq_some_iff.1 ho).1 (fun e => by subst e; unfold MapAt at b; rw [ho] at b; cases b)]; exact ho

theorem newGame_W {ws : List (Int × Int)} {p : PV} {h : PHeap} (hp : WSl h p ws) (vs : List (Nat × Nat)) (N : Nat) (hN : 1 ≤ N) :
    W (CL g lf N fn_impl_newNetGame [p] h) fun v h' => ∃ m, v = gmP p m ∧ GSch vs h' m ∧ Keep h.length h h' ∧ h.length ≤ m := by
  obtain ⟨n, rfl⟩ : ∃ n, N = n + 1 := ⟨N - 1, by omega⟩
  have hone := hp.one
  rw [impl_newNetGame.call_eq]
  unfold impl_newNetGame.main
  simp only [env_alloc, env_build, env_store, env_makeMap]
  refine walG fun h1 i1 o1 k1 l1 => ?_
  dsimp only
  refine wmkM fun h2 m ma k2 lm => ?_
  dsimp only
  refine wbd (bldG hp m) ?_
  have o2 := o1.keep k2
  have hne := o2.ne ma
  refine wstG hone o2 rfl fun h3 o3 k3 => ?_
  refine wbd (ldG hone o3) ?_
  have lk1 := k1.1
  have lk2 := k2.1
  exact W.ret ⟨m, rfl, ⟨[], ma.kb k3 hne.symm, fun p hp => by cases hp⟩, (k1.trans (k2.mono k1.1)).kbs (Nat.le_refl _) k3 l1, by omega⟩

theorem won_W {nodes : Nat} {vs : List (Nat × Nat)} (hn : NetN nodes vs) {p : PV} {h : PHeap} (hp : WSl h p (castW vs)) {m f a b t : Nat} (hst : StandsW vs.length f a b t) (hbig : Big g) (ht : Tab64 g h) (hlf : 1000 < lf) (N : Nat) (hN : 8 ≤ N) :
    ∃ h', CL g lf N fn_impl_netGame_won [gmP p m, stP f a b t] h = some (.int .i64 ((doneN vs a b : Nat) : Int), h') ∧ Keep h.length h h' := by
  obtain ⟨n, rfl⟩ : ∃ n, N = n + 1 := ⟨N - 1, by omega⟩
  have hone := hp.one
  have hpl := hp.plain1
  have : W (CL g lf (n + 1) fn_impl_netGame_won [gmP p m, stP f a b t] h) fun v h' => v = .int .i64 ((doneN vs a b : Nat) : Int) ∧ Keep h.length h h' := by
    rw [impl_netGame_won.call_eq]
    unfold impl_netGame_won.main
    simp only [env_C, env_box, env_load, env_fieldAddr, env_indexAddr]
    refine wboxG hone fun h1 i1 o1 k1 l1 => ?_
    dsimp only
    refine wboxS fun h2 i2 o2 k2 l2 => ?_
    dsimp only
    have o1' := o1.keep k2
    obtain ⟨h3, e3, k3⟩ := wonBy_W g lf hn ((hp.keep k1).keep k2) hst hbig ((ht.keep k1).keep k2) hlf n (by omega)
    have kk := k1.trans (k2.mono k1.1)
    repeat (first | with_reducible refine wrI ?_ | with_reducible refine wbd (by assumption) ?_ | (with_reducible refine wbd (fSt0 _) ?_) | (with_reducible refine wbd (fG0 _) ?_) | (with_reducible refine wia30 ?_) | (with_reducible refine wia31 ?_) | (with_reducible refine wbd (ld1 (by assumption) rfl) ?_) | (with_reducible refine wbd (ldGW hone (by assumption)) ?_) | dsimp only)
    exact W.ret ⟨rfl, kk.trans (k3.mono kk.1)⟩
  obtain ⟨_, h', e, rfl, k⟩ := this
  exact ⟨h', e, k⟩

def GWinOk (vs : List (Nat × Nat)) (p : PV) (b0 m : Nat) (b : Nat) : Prop := ∀ (f a b' t N : Nat) (h : PHeap), frN vs.length a b' ≤ b → StandsW vs.length f a b' t → 3 * b + 12 ≤ N → GSch vs h m → Tab64 g h → FixW b0 h p (castW vs) →
  W (CL g lf N fn_impl_netGame_winner [gmP p m, stP f a b' t] h) fun v h' => v = .int .i64 (gWin vs.length (linkW vs) (cutW vs) a b' t : Int) ∧ GSch vs h' m ∧ KB m h h'

theorem gwins_W {nodes : Nat} {vs : List (Nat × Nat)} (hn : NetN nodes vs) {p : PV} {b0 m B : Nat} (hb0 : b0 ≤ m) (hlf : 1000 < lf) (ih : ∀ b, b < B → GWinOk g lf vs p b0 m b) {f a b t k : Nat} (hfr : frN vs.length a b ≤ B) (hst : StandsW vs.length f a b t) (hk : f.testBit k = true) (N : Nat) (hN : 3 * B + 10 ≤ N) {h : PHeap} (hs : GSch vs h m) (ht : Tab64 g h) (hp : FixW b0 h p (castW vs)) :
    W (CL g lf N fn_impl_netGame_wins [gmP p m, stP f a b t, .int .i64 (k : Int)] h) fun v h' => v = .bool (decide (gWin vs.length (linkW vs) (cutW vs) (putA t k a) (putB t k b) (3 - t) = t)) ∧ GSch vs h' m ∧ KB m h h' := by
  obtain ⟨n, rfl⟩ : ∃ n, N = n + 1 := ⟨N - 1, by omega⟩
  have hone := hp.now.one
  have hpl := hp.now.plain1
  have h8 := hn.2.2.1
  have l9 := hst.lt9 h8
  have hlm := hs.lt
  obtain ⟨hgp, hf9, hfree, hT⟩ := id hst
  have hkn := ((hfree k).1 hk).1
  have hfr' := standsW_put_fr hst hk
  rw [impl_netGame_wins.call_eq]
  unfold impl_netGame_wins.main
  simp only [env_C, env_box, env_load, env_bin, env_fieldAddr]
  refine wboxG hone fun h1 i1 o1 k1 l1 => ?_
  dsimp only
  refine wboxS fun h2 i2 o2 k2 l2 => ?_
  dsimp only
  have p1 := o1.keep k2
  have kk2 := k1.trans (k2.mono k1.1)
  have hs2 := (hs.keep k1).keep k2
  have ht2 := (ht.keep k1).keep k2
  repeat (first | (with_reducible refine wbd (fSt1 _) ?_) | (with_reducible refine wbd (ld1 (by assumption) rfl) ?_) | (with_reducible refine wbd (ldS (by assumption)) ?_) | (with_reducible refine wbd (ldG hone (by assumption)) ?_))
  refine wcall (after_W g lf hf9 l9.1 l9.2 (show k < 9 by omega) hT n (by omega) h2) fun v h3 ⟨hv, k3⟩ => ?_
  subst hv
  have q1 := p1.keep k3
  have q2 := o2.keep k3
  have kk3 := kk2.trans (k3.mono kk2.1)
  have hs3 := hs2.keep k3
  have ht3 := ht2.keep k3
  repeat (first | with_reducible refine wck plain_int ?_ | (with_reducible refine wbd (ld1 (by assumption) rfl) ?_) | (with_reducible refine wbd (ldS (by assumption)) ?_) | (with_reducible refine wbd (ldG hone (by assumption)) ?_) | (with_reducible refine wck plainS ?_) | (with_reducible refine wck (plainG hpl) ?_) | dsimp only)
  refine wcall (ih (B - 1) (by omega) _ _ _ _ n h3 (by omega) (hst.put hk) (by omega) hs3 ht3 (hp.keep (kk3.mono (by omega)))) fun v h4 ⟨hv, hs4, k4⟩ => ?_
  subst hv
  have r1 := q1.kb k4 (hs3.ne q1)
  have r2 := q2.kb k4 (hs3.ne q2)
  have kk4 : KB m h h4 := kk3.kb.trans k4
  repeat (first | with_reducible refine wck plain_int ?_ | (with_reducible refine wbd (ld1 (by assumption) rfl) ?_) | (with_reducible refine wbd (ldS (by assumption)) ?_) | (with_reducible refine wbd (ldG hone (by assumption)) ?_) | (with_reducible refine wck plainS ?_) | (with_reducible refine wck (plainG hpl) ?_) | dsimp only)
  refine weql (fun e5 => ?_) (fun e5 => ?_)
  · repeat (first | with_reducible refine wrB ?_)
    exact W.ret ⟨by rw [decide_eq_true (by omega)], hs4, kk4⟩
  · repeat (first | with_reducible refine wrB ?_)
    exact W.ret ⟨by rw [decide_eq_false (by omega)], hs4, kk4⟩

theorem gsolved_W {nodes : Nat} {vs : List (Nat × Nat)} (hn : NetN nodes vs) {p : PV} {b0 m B : Nat} (hb0 : b0 ≤ m) (hbig : Big g) (hlf : 1000 < lf) (ih : ∀ b, b < B → GWinOk g lf vs p b0 m b) {f a b t : Nat} (hfr : frN vs.length a b ≤ B) (hst : StandsW vs.length f a b t) (N : Nat) (hN : 3 * B + 11 ≤ N) {h : PHeap} (hs : GSch vs h m) (ht : Tab64 g h) (hp : FixW b0 h p (castW vs)) :
    W (CL g lf N fn_impl_netGame_solved [gmP p m, stP f a b t] h) fun v h' => v = .int .i64 (gWin vs.length (linkW vs) (cutW vs) a b t : Int) ∧ GSch vs h' m ∧ KB m h h' := by
  obtain ⟨n, rfl⟩ : ∃ n, N = n + 1 := ⟨N - 1, by omega⟩
  have hone := hp.now.one
  have hpl := hp.now.plain1
  have h8 := hn.2.2.1
  obtain ⟨hgp, hf9, hfree, hT⟩ := id hst
  obtain ⟨w1, w2⟩ := done_win (vs := vs) (a := a) (b := b) (t := t)
  have hlm := hs.lt
  rw [impl_netGame_solved.call_eq]
  unfold impl_netGame_solved.main
  simp only [env_C, env_lf, env_box, env_load, env_bin, env_fieldAddr, env_indexAddr]
  refine wboxG hone fun h1 i1 o1 k1 l1 => ?_
  dsimp only
  refine wboxS fun h2 i2 o2 k2 l2 => ?_
  dsimp only
  have p1 := o1.keep k2
  have kk2 := k1.trans (k2.mono k1.1)
  have hs2 := (hs.keep k1).keep k2
  have ht2 := (ht.keep k1).keep k2
  have hp2 := hp.keep (kk2.mono (show b0 ≤ h.length by omega))
  obtain ⟨h3, e3, k3⟩ := won_W g lf hn (m := m) hp2.now hst hbig ht2 hlf n (by omega)
  have kk3 := kk2.trans (k3.mono kk2.1)
  have q1 := p1.keep k3
  have q2 := o2.keep k3
  have hs3 := hs2.keep k3
  have ht3 := ht2.keep k3
  repeat (first | with_reducible refine wbd (by assumption) ?_ | (with_reducible refine wbd (ldS (by assumption)) ?_) | (with_reducible refine wbd (ldG hone (by assumption)) ?_) | dsimp only)
  refine wneq (fun e => ?_) (fun e => ?_)
  · repeat (first | with_reducible refine wT ?_ | with_reducible refine wrI ?_)
    exact W.ret ⟨by rw [(w1 (by omega)).1], hs3, kk3.kb⟩
  · have hwo := w2 (by omega)
    repeat (first | with_reducible refine wF ?_ | (with_reducible refine wbd (fSt0 _) ?_) | (with_reducible refine wia30 ?_) | (with_reducible refine wbd (ld1 (by assumption) rfl) ?_))
    refine loopW (fun m' st => ∃ (r : Nat) (h4 : PHeap), st = impl_netGame_solved.st0 (.ptr i1 0) (.ptr i2 0) (.int .i64 (r : Int)) h4 ∧ r < 2 ^ 9 ∧ (∀ k, r.testBit k = true → f.testBit k = true) ∧ (∀ k, f.testBit k = true → r.testBit k = false → gWin vs.length (linkW vs) (cutW vs) (putA t k a) (putB t k b) (3 - t) ≠ t) ∧
      At h4 i1 (gmC p m) ∧ At h4 i2 (stC f a b t) ∧ GSch vs h4 m ∧ Tab64 g h4 ∧ FixW b0 h4 p (castW vs) ∧ KB m h3 h4 ∧ m' = r) ?_ lf f _ (by omega) ⟨f, h3, rfl, hf9, fun _ h => h, fun k h1 h2 => (by rw [h1] at h2; cases h2), q1, q2, hs3, ht3, hp.keep (kk3.mono (by omega)), KB.refl _ _, rfl⟩
    rintro n1 m1 st ⟨r, h4, rfl, hr, hrf, hno, a1, a2, hs4, ht4, hp4, k4, hm⟩ next
    rw [impl_netGame_solved.body0_eq]
    unfold impl_netGame_solved.body0
    simp only [env_C, env_load, env_bin, env_fieldAddr]
    by_cases e4 : r = 0
    · subst e4
      have e5 := exchanged_W g lf n (by omega) h4 hT
      repeat (first | with_reducible refine wF ?_ | with_reducible refine wrI ?_ | with_reducible refine wbd (by assumption) ?_ | (with_reducible refine wbd (fSt1 _) ?_) | (with_reducible refine wbd (ld1 (by assumption) rfl) ?_) | with_reducible refine wneqF (by omega) ?_ | rw [kLoop_exit] | rw [impl_netGame_solved.after0_se0_2_3_6_17] | dsimp only | simp only [env_C, env_Y, env_g, env_lf, env_pick, env_alloc, env_box, env_build, env_buildSlice, env_load, env_store, env_ptr, env_bin, env_un, env_conv, env_make, env_slice, env_fieldAddr, env_field, env_indexAddr, env_index, env_extract, env_len, env_append, env_max, env_min, env_makeMap, env_lookup, env_update, env_clos, env_bstr])
      refine W.ret ⟨?_, hs4, kk3.kb.trans k4⟩
      have hmv : gMove vs.length (linkW vs) (cutW vs) a b t = false := by
        cases hh : gMove vs.length (linkW vs) (cutW vs) a b t with
        | false => rfl
        | true =>
          obtain ⟨k, c1, c2, c3⟩ := gMove_iff.1 hh
          exact absurd c3 (hno k ((hfree k).2 ⟨c1, c2⟩) (Nat.zero_testBit _))
      rw [hwo, hmv]; rfl
    · have el := leastIn_W g lf hr e4 hbig ht4 n (by omega)
      obtain ⟨c1, c2, c3, c4⟩ := low_ok hr e4
      obtain ⟨d1, d2⟩ := f_drop hr e4
      have hlt := without_less hr e4
      have hwl := without_lt9 (k := lowN r) hr
      obtain ⟨k, hk⟩ : ∃ k, k = lowN r := ⟨_, rfl⟩
      rw [← hk] at el c1 c2 d2 hlt hwl
      have hkf := hrf k c1
      repeat (first | with_reducible refine wT ?_ | with_reducible refine wbd (by assumption) ?_ | (with_reducible refine wbd (ldS (by assumption)) ?_) | (with_reducible refine wbd (ldG hone (by assumption)) ?_) | (with_reducible refine wck plainS ?_) | (with_reducible refine wck (plainG hpl) ?_) | with_reducible refine wneqT (by omega) ?_ | dsimp only)
      refine wcall (gwins_W g lf hn hb0 hlf ih hfr hst hkf n (by omega) hs4 ht4 hp4) fun v h5 ⟨hv, hs5, k5⟩ => ?_
      subst hv
      have r1 := a1.kb k5 (hs4.ne a1)
      have r2 := a2.kb k5 (hs4.ne a2)
      have ht5 := ht4.kbg hs4 k5
      have hp5 := hp4.kb k5 hb0 hs4.lt
      cases hd : decide (gWin vs.length (linkW vs) (cutW vs) (putA t k a) (putB t k b) (3 - t) = t) with
      | true =>
        repeat (first | with_reducible refine wT ?_ | with_reducible refine wrI ?_ | (with_reducible refine wbd (fSt1 _) ?_) | (with_reducible refine wbd (ld1 (by assumption) rfl) ?_) | (with_reducible refine wbd (ldS (by assumption)) ?_) | (with_reducible refine wbd (ldG hone (by assumption)) ?_) | (with_reducible refine wck plainS ?_) | (with_reducible refine wck (plainG hpl) ?_) | rw [kLoop_ret] | rw [impl_netGame_solved.K0_ret] | rw [impl_netGame_solved.top_sr_4] | dsimp only)
        refine W.ret ⟨?_, hs5, (kk3.kb.trans k4).trans k5⟩
        obtain ⟨x1, x2⟩ := (hfree k).1 hkf
        have hmv : gMove vs.length (linkW vs) (cutW vs) a b t = true := gMove_iff.2 ⟨k, x1, x2, of_decide_eq_true hd⟩
        rw [hwo, hmv]; rfl
      | false =>
        repeat (first | with_reducible refine wF ?_ | with_reducible refine wbd (by assumption) ?_ | (with_reducible refine wbd (ldS (by assumption)) ?_) | (with_reducible refine wbd (ldG hone (by assumption)) ?_) | (with_reducible refine wck plainS ?_) | (with_reducible refine wck (plainG hpl) ?_) | dsimp only)
        refine next _ _ (hm ▸ hlt) ⟨_, h5, rfl, hwl, fun j hj => ?_, fun j hj1 hj2 => ?_, r1, r2, hs5, ht5, hp5, k4.trans k5, rfl⟩
        · rw [without_bit, Bool.and_eq_true] at hj; exact hrf j hj.1
        · by_cases hjk : j = k
          · subst hjk; exact of_decide_eq_false hd
          · rw [without_bit] at hj2
            simp only [ne_eq, hjk, not_false_eq_true, decide_true, Bool.and_true] at hj2
            exact hno j hj1 hj2

theorem gWinner_W {nodes : Nat} {vs : List (Nat × Nat)} (hn : NetN nodes vs) {p : PV} {b0 m : Nat} (hb0 : b0 ≤ m) (hbig : Big g) (hlf : 1000 < lf) (B : Nat) : GWinOk g lf vs p b0 m B := by
  induction B using Nat.strongRecOn with
  | _ B ih =>
  intro f a b t N h hfr hst hN hs ht hp
  obtain ⟨n, rfl⟩ : ∃ n, N = n + 1 := ⟨N - 1, by omega⟩
  have hone := hp.now.one
  have hpl := hp.now.plain1
  have h8 := hn.2.2.1
  have hlm := hs.lt
  rw [impl_netGame_winner.call_eq]
  unfold impl_netGame_winner.main
  simp only [env_C, env_box, env_load, env_un, env_fieldAddr, env_extract, env_lookup, env_update]
  refine wboxG hone fun h1 i1 o1 k1 l1 => ?_
  dsimp only
  refine wboxS fun h2 i2 o2 k2 l2 => ?_
  dsimp only
  have p1 := o1.keep k2
  have kk2 := k1.trans (k2.mono k1.1)
  have hs2 := (hs.keep k1).keep k2
  have ht2 := (ht.keep k1).keep k2
  have hp2 := hp.keep (kk2.mono (show b0 ≤ h.length by omega))
  obtain ⟨es, ma, mm⟩ := _root_.id hs2
  have hlook := glook_st h8 ma mm hst
  repeat (first | with_reducible refine wbd (by assumption) ?_ | (with_reducible refine wbd (fG1 _) ?_) | (with_reducible refine wbd (ldS (by assumption)) ?_) | (with_reducible refine wbd (ldGM (by assumption)) ?_))
  cases hfd : findM es (stP f a b t) with
  | some v =>
    have hv := gmemo_find mm hfd
    subst hv
    refine wx0 ?_
    refine wx1 ?_
    repeat (first | with_reducible refine wF ?_ | with_reducible refine wnT ?_ | with_reducible refine wrI ?_)
    exact W.ret ⟨rfl, hs2, kk2.kb⟩
  | none =>
    refine wx0 ?_
    refine wx1 ?_
    repeat (first | with_reducible refine wT ?_ | with_reducible refine wnF ?_ | (with_reducible refine wbd (ldS (by assumption)) ?_) | (with_reducible refine wbd (ldG hone (by assumption)) ?_))
    refine wcall (gsolved_W g lf hn hb0 hbig hlf ih hfr hst n (by omega) hs2 ht2 hp2) fun v h3 ⟨hv, hs3, k3⟩ => ?_
    subst hv
    have q1 := p1.kb k3 (hs2.ne p1)
    have q2 := o2.kb k3 (hs2.ne o2)
    obtain ⟨es3, ma3, mm3⟩ := _root_.id hs3
    repeat (first | (with_reducible refine wbd (fG1 _) ?_) | (with_reducible refine wbd (ldS (by assumption)) ?_) | (with_reducible refine wbd (ldGM (by assumption)) ?_) | dsimp only)
    refine wbd (gupd_st h8 ma3 mm3 hst _) ?_
    have ma4 : MapAt (h3.set m (.mp (putM es3 (stP f a b t) (.int .i64 (gWin vs.length (linkW vs) (cutW vs) a b t : Int))))) m (putM es3 (stP f a b t) (.int .i64 (gWin vs.length (linkW vs) (cutW vs) a b t : Int))) := by
      unfold MapAt; rw [List.getElem?_set_self ma3.lt]
    have k4 : KB m h3 (h3.set m (.mp (putM es3 (stP f a b t) (.int .i64 (gWin vs.length (linkW vs) (cutW vs) a b t : Int))))) := ⟨by simp, fun i _ hn => List.getElem?_set_ne (by omega)⟩
    generalize h3.set m (.mp (putM es3 (stP f a b t) (.int .i64 (gWin vs.length (linkW vs) (cutW vs) a b t : Int)))) = h4 at ma4 k4 ⊢
    repeat (first | with_reducible refine wrI ?_)
    exact W.ret ⟨rfl, ⟨_, ma4, gmemo_put hst mm3⟩, (kk2.kb.trans k3).trans k4⟩

end Go.Proofs.YtihlmjapddjjjacDoor

/- The draws of chapter 6. -/
set_option maxRecDepth 20000
namespace Go.Proofs.YtihlmjapddjjjacDoor
open Go Go.Ip G

section
variable {Q : PV → PHeap → Prop} {x : Nat} {f : PV → Res}
end

variable (g : Nat → PV) (lf n : Nat)

end Go.Proofs.YtihlmjapddjjjacDoor

/- Bridges. No program text. -/
set_option maxRecDepth 20000
namespace Go.Proofs.YtihlmjapddjjjacDoor
open Go Go.Ip G

/-! ### the count that the law makes -/
/-! ### the list that grows -/
end Go.Proofs.YtihlmjapddjjjacDoor

/- The model's chapter 6: what CarrierOk, ThreatOk, LeastCarrier, LeastThreat, BridgesOf and MustCells of it compute. -/
set_option maxRecDepth 20000
namespace Go.Proofs.YtihlmjapddjjjacDoor
open Go Go.Ip G

/-! ### lists, while they are written -/
variable (g : Nat → PV) (lf n : Nat)

/-! ### what is left to a player -/
/-! ### sets that may carry -/
/-! ### least sets -/
/-! ### bridges -/
/-! ### cells that must be taken -/
end Go.Proofs.YtihlmjapddjjjacDoor

/- The laws of chapter 6 over what the program's functions are asked to compute. -/
set_option maxRecDepth 20000
namespace Go.Proofs.YtihlmjapddjjjacDoor
open Go Go.Ip G

variable (g : Nat → PV) (lf n : Nat)

/-! ### the exact laws -/
end Go.Proofs.YtihlmjapddjjjacDoor

/- The program's chapter 6: sets that are enough, the least of them, bridges, and cells that must be taken. -/
set_option maxRecDepth 20000
namespace Go.Proofs.YtihlmjapddjjjacDoor
open Go Go.Ip G

theorem OwnSl.kbo {n m : Nat} {h h' : PHeap} {p : PV} {xs : List Int} (s : OwnSl n h p xs) (k : KB m h h') (hm : m < n) : OwnSl n h' p xs := by
  rcases s with s | ⟨id, h1, h2, h3⟩
  · exact .inl s
  · exact .inr ⟨id, h1, h2, by rw [k.2 id (List.getElem?_eq_some_iff.1 h3).1 (by omega)]; exact h3⟩
theorem KB.of {n m : Nat} {h h' : PHeap} (k : Keep n h h') (hn : h.length ≤ n) : KB m h h' := ⟨k.1, fun i hi _ => k.2 i (by omega)⟩

theorem Tab64.at {g : Nat → PV} {id : Nat} {l : List PV} {h h' : PHeap} (t : Tab64 g h) (a : At h id l) (k : KB id h h') : Tab64 g h' := fun i e => by
  have ho := t i e
  rw [k.2 i (List.getElem?_eq_some_iff.1 ho).1 (fun e => by subst e; unfold At at a; rw [ho] at a; cases a)]; exact ho
variable (g : Nat → PV) (lf n : Nat)

/-! ### the least sets -/
/-! ### cells that must be taken -/
/-! ### bridges -/
end Go.Proofs.YtihlmjapddjjjacDoor

/- What the program's functions of chapter 9 compute. -/
set_option maxRecDepth 20000
namespace Go.Proofs.YtihlmjapddjjjacDoor
open Go Go.Ip G

theorem whole_set : ((List.range 9).all fun n => match (binP Tryd.prog .shl 3 (.int .i64 1) (.int .i64 (n : Int))).bind fun v => binP Tryd.prog .sub 3 v (.int .i64 1) with | some (.int .i64 (.ofNat b)) => b == 2 ^ n - 1 | _ => false) = true := by kernel_rfl
theorem whole_at {n : Nat} (h : n ≤ 8) : ((binP Tryd.prog .shl 3 (.int .i64 1) (.int .i64 (n : Int))).bind fun v => binP Tryd.prog .sub 3 v (.int .i64 1)) = some (.int .i64 ((2 ^ n - 1 : Nat) : Int)) := by
  have := List.all_eq_true.1 whole_set n (List.mem_range.2 (by omega))
  split at this
  · rename_i b e
    rw [e, eq_of_beq this]; rfl
  · cases this

variable (g : Nat → PV) (lf n : Nat)

theorem allWires_W {ws : List (Int × Int)} {p : PV} {h : PHeap} (hp : WSl h p ws) (h8 : ws.length ≤ 8) (N : Nat) (hN : 1 ≤ N) : CL g lf N fn_impl_allWires [p] h = some (.int .i64 ((2 ^ ws.length - 1 : Nat) : Int), h) := by
  obtain ⟨n, rfl⟩ : ∃ n, N = n + 1 := ⟨N - 1, by omega⟩
  have hw := whole_at h8
  have hlen := hp.len
  rw [impl_allWires.call_eq]
  unfold impl_allWires.main
  simp only [env_len, env_bin]
  rw [hlen]
  simp only [Option.bind_some]
  have key : ∀ (a : Option PV) (f : PV → Option PV) (k : PV → Res) (r : PV), a.bind f = some r → (a.bind fun v => (f v).bind k) = k r := by
    intro a f k r e
    cases a with
    | none => cases e
    | some x => simp only [Option.bind_some] at e ⊢; rw [e]; rfl
  rw [key _ _ _ _ hw]
  rfl

theorem wonL_eq {nodes : Int} {ws : List (Int × Int)} {os : List Int} (hb : ownersB nodes ws os = true) : wonL nodes ws os = ((doneN (natW ws) (setL os 1) (setL os 2) : Nat) : Int) := by unfold wonL; rw [hb]; rfl

theorem wonOk (hbig : Big g) (hlf : 1000 < lf) : WonOk g lf := by
  intro N hN nodes ws p os po h ht hp hl hf ho hol hof
  obtain ⟨n, rfl⟩ : ∃ n, N = n + 1 := ⟨N - 1, by omega⟩
  obtain ⟨h1, e1, k1⟩ := ownersOk_W g lf n (by omega) nodes hp hl hf ho hol hof
  have : W (CL g lf (n + 1) fn_impl_WiresWon [.int .i64 nodes, p, po] h) fun v h' => v = .int .i64 (wonL nodes ws os) ∧ Keep h.length h h' := by
    rw [impl_WiresWon.call_eq]
    unfold impl_WiresWon.main
    simp only [env_C, env_un]
    cases hb : ownersB nodes ws os with
    | false =>
      rw [hb] at e1
      repeat (first | with_reducible refine wT ?_ | with_reducible refine wnF ?_ | with_reducible refine wrI ?_ | with_reducible refine wbd (by assumption) ?_ | dsimp only)
      exact W.ret ⟨by unfold wonL; rw [hb]; rfl, k1⟩
    | true =>
      rw [hb] at e1
      obtain ⟨_, h1b, h1c⟩ := owners_of hb
      obtain ⟨M, rfl, hws, hn⟩ := wires_of h1b
      have h8 : ws.length ≤ 8 := by have := hn.2.2.1; rwa [natW_length] at this
      have hst := stands_owners hb h8 (T := 1) (.inl rfl)
      rw [← natW_length] at hst
      have e2 := setOf_W g lf 1 (ho.keep k1) (by omega) n (by omega) hlf
      have e3 := setOf_W g lf 0 (ho.keep k1) (by omega) n (by omega) hlf
      obtain ⟨h2, e4, k2⟩ := wonBy_W g lf hn (hws ▸ hp.keep k1) hst hbig (ht.keep k1).t64 hlf n (by omega)
      repeat (first | with_reducible refine wF ?_ | with_reducible refine wnT ?_ | with_reducible refine wrI ?_ | with_reducible refine wbd (by assumption) ?_ | dsimp only)
      exact W.ret ⟨by rw [wonL_eq hb], k1.trans (k2.mono k1.1)⟩
  obtain ⟨_, h', e, rfl, k⟩ := this
  exact ⟨h', e, k⟩

theorem wwinOk (hbig : Big g) (hlf : 1000 < lf) : WWinOk g lf := by
  intro N hN nodes t ws p os po h ht hp hl hf ho hol hof
  obtain ⟨n, rfl⟩ : ∃ n, N = n + 1 := ⟨N - 1, by omega⟩
  obtain ⟨h1, e1, k1⟩ := ownersOk_W g lf n (by omega) nodes hp hl hf ho hol hof
  have hplay := playerOk_W g lf n (by omega) h1 t
  have : W (CL g lf (n + 1) fn_impl_WiresWinner [.int .i64 nodes, p, po, .int .i64 t] h) fun v h' => v = .int .i64 (wwinL nodes ws os t) ∧ Keep h.length h h' := by
    rw [impl_WiresWinner.call_eq]
    unfold impl_WiresWinner.main
    simp only [env_C, env_pick, env_un]
    cases hb : ownersB nodes ws os with
    | false =>
      rw [hb] at e1
      repeat (first | with_reducible refine wT ?_ | with_reducible refine wg0 rfl ?_ | with_reducible refine wpT ?_ | with_reducible refine wnF ?_ | with_reducible refine wsm ?_ | with_reducible refine wrI ?_ | with_reducible refine wbd (by assumption) ?_ | dsimp only)
      exact W.ret ⟨by unfold wwinL; rw [hb]; rfl, k1⟩
    | true =>
      rw [hb] at e1
      cases hpl : playerB t with
      | false =>
        rw [hpl] at hplay
        repeat (first | with_reducible refine wT ?_ | with_reducible refine wg1 rfl ?_ | with_reducible refine wpF ?_ | with_reducible refine wnT ?_ | with_reducible refine wnF ?_ | with_reducible refine wpv ?_ | with_reducible refine wsm ?_ | with_reducible refine wrI ?_ | with_reducible refine wbd (by assumption) ?_ | dsimp only)
        exact W.ret ⟨by unfold wwinL; rw [hpl, Bool.and_false]; rfl, k1⟩
      | true =>
        rw [hpl] at hplay
        obtain ⟨T, rfl, hT⟩ := player_of hpl
        obtain ⟨_, h1b, h1c⟩ := owners_of hb
        obtain ⟨M, rfl, hws, hn⟩ := wires_of h1b
        have h8 : ws.length ≤ 8 := by have := hn.2.2.1; rwa [natW_length] at this
        have hst := stands_owners hb h8 hT
        rw [← natW_length] at hst
        have h8' := hn.2.2.1
        repeat (first | with_reducible refine wF ?_ | with_reducible refine wg1 rfl ?_ | with_reducible refine wpF ?_ | with_reducible refine wnT ?_ | with_reducible refine wpv ?_ | with_reducible refine wsm ?_ | with_reducible refine wbd (by assumption) ?_ | dsimp only)
        refine wcall (newGame_W g lf (hp.keep k1) (natW ws) n (by omega)) fun v h2 ⟨m, hv, hs, k2, l2⟩ => ?_
        subst hv
        have kk2 := k1.trans (k2.mono k1.1)
        repeat (first | dsimp only)
        refine wcall (standingOf_W g lf (ho.keep kk2) (by omega) T n (by omega) hlf) fun v h3 ⟨hv, k3⟩ => ?_
        subst hv
        have kk3 := kk2.trans (k3.mono kk2.1)
        have lk1 := k1.1
        repeat (first | dsimp only)
        refine wcall (gWinner_W g lf hn (b0 := h.length) (m := m) (by omega) hbig hlf (natW ws).length _ _ _ _ n h3 (fr_le _ _ _) hst (by omega) (hs.keep k3) (ht.t64.keep kk3) (hws ▸ hp.fix.keep kk3)) fun v h4 ⟨hv, hs4, k4⟩ => ?_
        subst hv
        repeat (first | with_reducible refine wrI ?_ | dsimp only)
        exact W.ret ⟨by rw [wwinL_eq hb hT], kk3.kbs (Nat.le_refl _) k4 (by omega)⟩
  obtain ⟨_, h', e, rfl, k⟩ := this
  exact ⟨h', e, k⟩

/-! ### wires that win -/
def takeTo (nodes : Int) (ws : List (Int × Int)) (os : List Int) (pl : Int) (k : Nat) : List Int := ((List.range k).filter (wtakeB nodes ws os pl)).map fun k : Nat => (k : Int)
theorem takeTo_succ (nodes : Int) (ws : List (Int × Int)) (os : List Int) (pl : Int) (k : Nat) : takeTo nodes ws os pl (k + 1) = takeTo nodes ws os pl k ++ if wtakeB nodes ws os pl k = true then [(k : Int)] else [] := by
  unfold takeTo
  rw [List.range_succ, List.filter_append, List.map_append, List.filter_cons, List.filter_nil]
  split <;> rfl
theorem takeTo_len (nodes : Int) (ws : List (Int × Int)) (os : List Int) (pl : Int) (k : Nat) : (takeTo nodes ws os pl k).length ≤ k := by
  unfold takeTo
  rw [List.length_map]
  exact Nat.le_trans (List.length_filter_le _ _) (by simp)
theorem takeB_is {nodes : Int} {ws : List (Int × Int)} {os : List Int} {P k : Nat} (hb : ownersB nodes ws os = true) (hP : P = 1 ∨ P = 2) (hw : wonL nodes ws os = 0) (hk : k < os.length) :
    wtakeB nodes ws os (P : Int) k = (decide (os[k] = 0) && decide (gWin (natW ws).length (linkW (natW ws)) (cutW (natW ws)) (putA P k (setL os 1)) (putB P k (setL os 2)) (3 - P) = P)) := by
  have hP' : 3 - P = 1 ∨ 3 - P = 2 := by omega
  unfold wtakeB
  have hgd : os.getD k 5 = os[k] := by rw [List.getD_eq_getElem?_getD, List.getElem?_eq_getElem hk]; rfl
  rw [hb, playerB_of hP, decide_eq_true hw, hgd, Bool.true_and, Bool.true_and, Bool.true_and]
  by_cases hz : os[k] = 0
  · have hk0 : os[k]? = some 0 := by rw [List.getElem?_eq_getElem hk, hz]
    have hv : wwinL nodes ws (os.set k (P : Int)) (3 - (P : Int)) = ((gWin (natW ws).length (linkW (natW ws)) (cutW (natW ws)) (setL (os.set k (P : Int)) 1) (setL (os.set k (P : Int)) 2) (3 - P) : Nat) : Int) := by
      rw [show (3 : Int) - (P : Int) = ((3 - P : Nat) : Int) by omega]; exact wwinL_eq (owners_set hb hP k) hP'
    rw [hv, (set_putA hP hk0).1, (set_putA hP hk0).2]
    congr 1
    rw [Bool.eq_iff_iff, decide_eq_true_eq, decide_eq_true_eq]
    omega
  · rw [decide_eq_false hz]; rfl

theorem wtakeOk (hbig : Big g) (hlf : 1000 < lf) : WTakeOk g lf := by
  intro N hN nodes pl ws p os po h ht hp hl hf ho hol hof
  obtain ⟨n, rfl⟩ : ∃ n, N = n + 1 := ⟨N - 1, by omega⟩
  obtain ⟨h1, e1, k1⟩ := ownersOk_W g lf n (by omega) nodes hp hl hf ho hol hof
  have hplay := playerOk_W g lf n (by omega) h1 pl
  suffices this : W (CL g lf (n + 1) fn_impl_WinningWires [.int .i64 nodes, p, po, .int .i64 pl] h) fun q h' => OwnSl h.length h' q (wtakeL nodes ws os pl) ∧ Keep h.length h h' by
    obtain ⟨q, h', e, o, k⟩ := this
    exact ⟨q, h', e, o, k⟩
  rw [impl_WinningWires.call_eq]
  unfold impl_WinningWires.main
  simp only [env_C, env_lf, env_pick, env_alloc, env_load, env_store, env_bin, env_un, env_len]
  cases hb : ownersB nodes ws os with
  | false =>
    rw [hb] at e1
    rw [wtakeL_none (.inl hb)]
    repeat (first | with_reducible refine wT ?_ | with_reducible refine wg0 rfl ?_ | with_reducible refine wpT ?_ | with_reducible refine wnF ?_ | with_reducible refine wsm ?_ | with_reducible refine wrN ?_ | with_reducible refine wbd (by assumption) ?_ | dsimp only)
    exact W.ret ⟨OwnSl.nil _ _, k1⟩
  | true =>
  rw [hb] at e1
  cases hpl' : playerB pl with
  | false =>
    rw [hpl'] at hplay
    rw [wtakeL_none (.inr (.inl hpl'))]
    repeat (first | with_reducible refine wT ?_ | with_reducible refine wg1 rfl ?_ | with_reducible refine wpF ?_ | with_reducible refine wnT ?_ | with_reducible refine wnF ?_ | with_reducible refine wpv ?_ | with_reducible refine wsm ?_ | with_reducible refine wrN ?_ | with_reducible refine wbd (by assumption) ?_ | dsimp only)
    exact W.ret ⟨OwnSl.nil _ _, k1⟩
  | true =>
  rw [hpl'] at hplay
  obtain ⟨P, rfl, hP⟩ := player_of hpl'
  obtain ⟨_, h1b, h1c⟩ := owners_of hb
  obtain ⟨M, rfl, hws, hn⟩ := wires_of h1b
  have h8 : ws.length ≤ 8 := by have := hn.2.2.1; rwa [natW_length] at this
  have h8' := hn.2.2.1
  have hst := stands_owners hb h8 hP
  rw [← natW_length] at hst
  have hone := hp.one
  have hpl := hp.plain1
  have hfx : FixW h.length h p (castW (natW ws)) := hws ▸ hp.fix
  repeat (first | with_reducible refine wF ?_ | with_reducible refine wg1 rfl ?_ | with_reducible refine wpF ?_ | with_reducible refine wnT ?_ | with_reducible refine wpv ?_ | with_reducible refine wsm ?_ | with_reducible refine wbd (by assumption) ?_ | dsimp only)
  refine wcall (newGame_W g lf (hp.keep k1) (natW ws) n (by omega)) fun v h2 ⟨m, hv, hs, k2, l2⟩ => ?_
  subst hv
  have kk2 := k1.trans (k2.mono k1.1)
  repeat (first | dsimp only)
  refine wcall (standingOf_W g lf (ho.keep kk2) (by omega) P n (by omega) hlf) fun v h3 ⟨hv, k3⟩ => ?_
  subst hv
  have kk3 := kk2.trans (k3.mono kk2.1)
  have lk1 := k1.1
  repeat (first | dsimp only)
  refine walG fun h4 i1 o1 k4 l4 => ?_
  dsimp only
  refine walS fun h5 i2 o2 k5 l5 => ?_
  dsimp only
  have o1' := o1.keep k5
  have n12 : i1 ≠ i2 := by have := o1.lt; omega
  have kk5 := (kk3.trans (k4.mono kk3.1)).trans (k5.mono (Nat.le_trans kk3.1 k4.1))
  have hs5 := ((hs.keep k3).keep k4).keep k5
  have lk3 := kk3.1
  have lk4 := k4.1
  refine wstG hone o1' rfl fun h6 o6 k6 => ?_
  have o26 := o2.kb k6 n12.symm
  refine wstS o26 fun h7 o7 k7 => ?_
  have o17 := o6.kb k7 n12
  have kk7 : Keep h.length h h7 := (kk5.kbs (Nat.le_refl _) k6 (by omega)).kbs (Nat.le_refl _) k7 (by omega)
  have hm1 : m ≠ i1 := by have := hs.lt; have := k3.1; omega
  have hm2 : m ≠ i2 := by have := hs.lt; have := k3.1; omega
  have hs7 : GSch (natW ws) h7 m := by
    obtain ⟨es, b, c⟩ := hs5
    exact ⟨es, (b.kb k6 hm1).kb k7 hm2, c⟩
  have ht7 := ht.t64.keep kk7
  have hp7 := hfx.keep kk7
  obtain ⟨h8', e8, k8⟩ := won_W g lf hn (m := m) hp7.now hst hbig ht7 hlf n (by omega)
  have kk8 := kk7.trans (k8.mono kk7.1)
  have hs8 := hs7.keep k8
  have q1 := o17.keep k8
  have q2 := o7.keep k8
  have ho8 := (ho.keep kk8).len'
  repeat (first | with_reducible refine wbd (by assumption) ?_ | (with_reducible refine wbd (ldS (by assumption)) ?_) | (with_reducible refine wbd (ldG hone (by assumption)) ?_) | dsimp only)
  refine wneq (fun e => ?_) (fun e => ?_)
  · have : wonL (M : Int) ws os ≠ 0 := by rw [wonL_eq hb]; exact e
    rw [wtakeL_none (.inr (.inr this))]
    repeat (first | with_reducible refine wT ?_ | with_reducible refine wrN ?_)
    exact W.ret ⟨OwnSl.nil _ _, kk8⟩
  · have hw0 : wonL (M : Int) ws os = 0 := by rw [wonL_eq hb]; exact e
    obtain ⟨b, hbl⟩ : ∃ b, b = h8'.length := ⟨_, rfl⟩
    have hmb : m < b := by rw [hbl]; exact hs8.lt
    have hbh : h.length ≤ b := by rw [hbl]; exact kk8.1
    repeat (first | with_reducible refine wF ?_ | with_reducible refine wbd (by assumption) ?_)
    refine loopW (fun d st => ∃ (k : Nat) (q : PV) (h9 : PHeap), st = impl_WinningWires.st0 (.ptr i1 0) (.ptr i2 0) q po (.int .i64 (os.length : Int)) (.int .i64 (k : Int)) h9 ∧ k + d = os.length ∧ OwnSl b h9 q (takeTo (M : Int) ws os (P : Int) k) ∧
      At h9 i1 (gmC p m) ∧ At h9 i2 (stC (setL os 0) (setL os 1) (setL os 2) P) ∧ GSch (natW ws) h9 m ∧ KB m h8' h9) ?_ lf os.length _ (by omega) ⟨0, .nilsl, h8', rfl, by omega, OwnSl.nil _ _, q1, q2, hs8, KB.refl _ _⟩
    rintro n1 d st ⟨k, q, h9, rfl, hkd, o9, a1, a2, hs9, k9⟩ next
    have kk9 : Keep h.length h h9 := kk8.kbs (Nat.le_refl _) k9 (by omega)
    rw [impl_WinningWires.body0_eq]
    unfold impl_WinningWires.body0
    simp only [env_C, env_pick, env_buildSlice, env_load, env_bin, env_indexAddr, env_append]
    cases d with
    | zero =>
      obtain rfl : k = os.length := by omega
      repeat (first | with_reducible refine wF ?_ | with_reducible refine wlssF (by omega) ?_ | with_reducible refine wresO (by assumption) ?_ | rw [kLoop_exit] | rw [impl_WinningWires.after0_se0_9_10_11_33_34_35_36])
      exact W.ret ⟨o9.mono hbh, kk9⟩
    | succ d =>
      have hk : k < os.length := by omega
      have htk := takeB_is hb hP hw0 hk
      have hts := takeTo_succ (M : Int) ws os (P : Int) k
      have htl := takeTo_len (M : Int) ws os (P : Int) k
      obtain ⟨a, ea, la⟩ := (ho.keep kk9).at' hk
      by_cases hz : os[k] = 0
      · rw [hz] at la
        rw [decide_eq_true hz, Bool.true_and] at htk
        have hkf : (setL os 0).testBit k = true := setL_bit.2 (by rw [List.getElem?_eq_getElem hk, hz])
        repeat (first | with_reducible refine wT ?_ | with_reducible refine wg1 rfl ?_ | with_reducible refine wpv ?_ | with_reducible refine wsm ?_ | with_reducible refine wbd (by assumption) ?_ | (with_reducible refine wbd (ldS (by assumption)) ?_) | (with_reducible refine wbd (ldG hone (by assumption)) ?_) | with_reducible refine wlssT (by omega) ?_ | with_reducible refine weqlT (by omega) ?_ | dsimp only)
        refine wcall (gwins_W g lf hn (b0 := h.length) (m := m) (B := (natW ws).length) (by omega) hlf (fun b _ => gWinner_W g lf hn (by omega) hbig hlf b) (fr_le _ _ _) hst hkf n (by omega) hs9 (ht.t64.keep kk9) (hfx.keep kk9)) fun v h10 ⟨hv, hs10, k10⟩ => ?_
        subst hv
        have r1 := a1.kb k10 (hs9.ne a1)
        have r2 := a2.kb k10 (hs9.ne a2)
        have o10 := o9.kbo k10 hmb
        have l10 : b ≤ h10.length := by rw [hbl]; exact Nat.le_trans k9.1 k10.1
        cases hd : decide (gWin (natW ws).length (linkW (natW ws)) (cutW (natW ws)) (putA P k (setL os 1)) (putB P k (setL os 2)) (3 - P) = P) with
        | true =>
          rw [hd] at htk
          rw [htk, if_pos rfl] at hts
          repeat (first | with_reducible refine wT ?_ | with_reducible refine wpT ?_ | dsimp only)
          refine wap o10 l10 (by omega) fun q' h11 o11 k11 => ?_
          have li1 := r1.lt
          have x1 : i1 < b := by rw [hbl]; exact q1.lt
          have x2 : i2 < b := by rw [hbl]; exact q2.lt
          have s1 : At h11 i1 (gmC p m) := by unfold At; rw [k11.2 i1 x1]; exact r1
          have s2 : At h11 i2 (stC (setL os 0) (setL os 1) (setL os 2) P) := by unfold At; rw [k11.2 i2 x2]; exact r2
          have s3 : GSch (natW ws) h11 m := by
            obtain ⟨es, b1, c1⟩ := hs10
            exact ⟨es, by unfold MapAt; rw [k11.2 m hmb]; exact b1, c1⟩
          have k10' := k9.trans k10
          have s4 : KB m h8' h11 := ⟨Nat.le_trans k10'.1 k11.1, fun i hi hn => (k11.2 i (by omega)).trans (k10'.2 i hi hn)⟩
          repeat (first | with_reducible refine wadd1 (by omega) ?_ | dsimp only)
          exact next _ _ (Nat.lt_succ_self d) ⟨k + 1, q', h11, rfl, by omega, by rw [hts]; exact o11, s1, s2, s3, s4⟩
        | false =>
          rw [hd] at htk
          rw [htk, if_neg (by decide), List.append_nil] at hts
          repeat (first | with_reducible refine wF ?_ | with_reducible refine wpT ?_ | with_reducible refine wadd1 (by omega) ?_ | dsimp only)
          exact next _ _ (Nat.lt_succ_self d) ⟨k + 1, q, h10, rfl, by omega, by rw [hts]; exact o10, r1, r2, hs10, k9.trans k10⟩
      · rw [decide_eq_false hz, Bool.false_and] at htk
        rw [htk, if_neg (by decide), List.append_nil] at hts
        repeat (first | with_reducible refine wT ?_ | with_reducible refine wF ?_ | with_reducible refine wg0 rfl ?_ | with_reducible refine wpF ?_ | with_reducible refine wsm ?_ | with_reducible refine wbd (by assumption) ?_ | with_reducible refine wadd1 (by omega) ?_ | with_reducible refine wlssT (by omega) ?_ | with_reducible refine weqlF (by omega) ?_ | dsimp only)
        exact next _ _ (Nat.lt_succ_self d) ⟨k + 1, q, h9, rfl, by omega, by rw [hts]; exact o9, a1, a2, hs9, k9⟩

/-! ### least sets -/
/-- A function that tells of sets whether they have a property: a literal that has captured the wires. -/
def SufOk (g : Nat → PV) (lf : Nat) (vs : List (Nat × Nat)) (p : PV) (id : Nat) (F : FuncId) (P : Nat → Bool) : Prop := ∀ (N : Nat), 8 ≤ N → ∀ (S : Nat) (h : PHeap), S < 2 ^ vs.length → At h id [p] → WSl h p (castW vs) → Tab64 g h →
  W (CL g lf N F [.int .i64 (S : Int), .ptr id 0] h) fun v h' => v = .bool (P S) ∧ Keep h.length h h'

theorem spares_W {vs : List (Nat × Nat)} (h8 : vs.length ≤ 8) {p : PV} {id : Nat} {F : FuncId} {P : Nat → Bool} (hsf : SufOk g lf vs p id F P) (hbig : Big g) (hlf : 1000 < lf) {S : Nat} (hS : S < 2 ^ vs.length) (N : Nat) (hN : 9 ≤ N) {h : PHeap} (ha : At h id [p]) (hp : WSl h p (castW vs)) (ht : Tab64 g h) :
    W (CL g lf N fn_impl_sparesOne [.int .i64 (S : Int), .clo F [(id, 0)]] h) fun v h' => ∃ b, v = .bool b ∧ (b = true ↔ ∃ k, S.testBit k = true ∧ P (without S k) = true) ∧ Keep h.length h h' := by
  obtain ⟨n, rfl⟩ : ∃ n, N = n + 1 := ⟨N - 1, by omega⟩
  have hS9 := pow58 hS h8
  rw [impl_sparesOne.call_eq]
  unfold impl_sparesOne.main
  simp only [env_lf]
  refine loopW (fun m' st => ∃ (r : Nat) (h1 : PHeap), st = impl_sparesOne.st0 (.int .i64 (S : Int)) (.clo F [(id, 0)]) (.int .i64 (r : Int)) h1 ∧ r < 2 ^ 9 ∧ (∀ k, r.testBit k = true → S.testBit k = true) ∧ (∀ k, S.testBit k = true → r.testBit k = false → P (without S k) = false) ∧ Keep h.length h h1 ∧ m' = r) ?_ lf S _ (by omega)
    ⟨S, h, rfl, hS9, fun _ h => h, fun k h1 h2 => (by rw [h1] at h2; cases h2), Keep.refl _ _, rfl⟩
  rintro n1 m1 st ⟨r, h1, rfl, hr, hrS, hno, k1, hm⟩ next
  rw [impl_sparesOne.body0_eq]
  unfold impl_sparesOne.body0
  simp only [env_C, env_Y, env_bin]
  by_cases e4 : r = 0
  · subst e4
    repeat (first | with_reducible refine wF ?_ | with_reducible refine wrB ?_ | with_reducible refine wneqF (by omega) ?_ | rw [kLoop_exit] | rw [impl_sparesOne.after0_se0_0_1_5_8])
    refine W.ret ⟨false, rfl, ⟨fun hh => (by cases hh), fun ⟨k, x1, x2⟩ => ?_⟩, k1⟩
    rw [hno k x1 (Nat.zero_testBit _)] at x2; cases x2
  · have ht1 := ht.keep k1
    have el := leastIn_W g lf hr e4 hbig ht1 n (by omega)
    obtain ⟨c1, c2, c3, c4⟩ := low_ok hr e4
    obtain ⟨d1, d2⟩ := f_drop hr e4
    have hlt := without_less hr e4
    have hwl := without_lt9 (k := lowN r) hr
    obtain ⟨k, hk⟩ : ∃ k, k = lowN r := ⟨_, rfl⟩
    rw [← hk] at el c1 c2 d2 hlt hwl
    have hkS := hrS k c1
    have hsl := shl_lt c2
    repeat (first | with_reducible refine wT ?_ | with_reducible refine wbd (by assumption) ?_ | with_reducible refine wshl (by omega) ?_ | with_reducible refine wandNot (by omega) (by omega) ?_ | with_reducible refine wneqT (by omega) ?_ | dsimp only)
    rw [minusN_one]
    have hc := hsf n (by omega) (without S k) h1 (without_lt hS) (ha.keep k1) (hp.keep k1) ht1
    refine wcall (show W (vcall (CL g lf n) (YL g lf n) (.clo F [(id, 0)]) [.int .i64 ((without S k : Nat) : Int)] h1) _ from hc) fun v h2 ⟨hv, k2⟩ => ?_
    subst hv
    have kk2 := k1.trans (k2.mono k1.1)
    cases hP : P (without S k) with
    | true =>
      repeat (first | with_reducible refine wT ?_ | with_reducible refine wrB ?_ | rw [kLoop_ret] | rw [impl_sparesOne.K0_ret] | rw [impl_sparesOne.top_sr_4] | dsimp only)
      exact W.ret ⟨true, rfl, ⟨fun _ => ⟨k, hkS, hP⟩, fun _ => rfl⟩, kk2⟩
    | false =>
      repeat (first | with_reducible refine wF ?_ | with_reducible refine wbd (by assumption) ?_ | dsimp only)
      refine next _ _ (hm ▸ hlt) ⟨_, h2, rfl, hwl, fun j hj => ?_, fun j hj1 hj2 => ?_, kk2, rfl⟩
      · rw [without_bit, Bool.and_eq_true] at hj; exact hrS j hj.1
      · by_cases hjk : j = k
        · subst hjk; exact hP
        · rw [without_bit] at hj2
          simp only [ne_eq, hjk, not_false_eq_true, decide_true, Bool.and_true] at hj2
          exact hno j hj1 hj2

def leastTo (P : Nat → Bool) (n k : Nat) : List Int := ((List.range k).filter (minS P n)).map fun k : Nat => (k : Int)
theorem leastTo_succ (P : Nat → Bool) (n k : Nat) : leastTo P n (k + 1) = leastTo P n k ++ if minS P n k = true then [(k : Int)] else [] := by
  unfold leastTo
  rw [List.range_succ, List.filter_append, List.map_append, List.filter_cons, List.filter_nil]
  split <;> rfl
theorem leastTo_len (P : Nat → Bool) (n k : Nat) : (leastTo P n k).length ≤ k := by
  unfold leastTo
  rw [List.length_map]
  exact Nat.le_trans (List.length_filter_le _ _) (by simp)

theorem leastSets_W {vs : List (Nat × Nat)} (h8 : vs.length ≤ 8) {p : PV} {id : Nat} {F : FuncId} {P : Nat → Bool} (hsf : SufOk g lf vs p id F P) (hbig : Big g) (hlf : 1000 < lf) (N : Nat) (hN : 11 ≤ N) {h : PHeap} (ha : At h id [p]) (hp : WSl h p (castW vs)) (ht : Tab64 g h) :
    W (CL g lf N fn_impl_leastSets [p, .clo F [(id, 0)]] h) fun q h' => OwnSl h.length h' q (((List.range (2 ^ vs.length)).filter (minS P vs.length)).map fun k : Nat => (k : Int)) ∧ Keep h.length h h' := by
  obtain ⟨n, rfl⟩ : ∃ n, N = n + 1 := ⟨N - 1, by omega⟩
  have ea := allWires_W g lf hp (by rw [castW_length]; exact h8) n (by omega)
  rw [castW_length] at ea
  have h28 : 2 ^ vs.length ≤ 2 ^ 8 := Nat.pow_le_pow_right (by decide) h8
  have h20 := Nat.two_pow_pos vs.length
  have hpo := partsOf_W g lf (F := 2 ^ vs.length - 1) (by omega) n (by omega) hlf h
  rw [allParts h8] at hpo
  rw [impl_leastSets.call_eq]
  unfold impl_leastSets.main
  simp only [env_C, env_lf, env_len]
  repeat (first | with_reducible refine wbd (by assumption) ?_ | dsimp only)
  refine wcall hpo fun q1 h1 ⟨o1, k1⟩ => ?_
  have hll : ((List.range (2 ^ vs.length)).map fun x : Nat => (x : Int)).length = 2 ^ vs.length := by simp
  have hfx := o1.int.fix
  obtain ⟨b, hb⟩ : ∃ b, b = h1.length := ⟨_, rfl⟩
  rw [← hb] at hfx
  have lk1 := k1.1
  repeat (first | with_reducible refine wlen (OwnSl.int (by assumption)) ?_ | dsimp only)
  refine loopW (fun d st => ∃ (k : Nat) (q : PV) (h2 : PHeap), st = impl_leastSets.st0 (.clo F [(id, 0)]) q q1 (.int .i64 (((List.range (2 ^ vs.length)).map fun x : Nat => (x : Int)).length : Int)) (.int .i64 (k : Int)) h2 ∧ k + d = 2 ^ vs.length ∧ OwnSl b h2 q (leastTo P vs.length k) ∧ Keep b h1 h2) ?_ lf (2 ^ vs.length) _ (by omega)
    ⟨0, .nilsl, h1, rfl, by omega, OwnSl.nil _ _, Keep.refl _ _⟩
  rintro n1 d st ⟨k, q, h2, rfl, hkd, o2, k2⟩ next
  have kk2 : Keep h.length h h2 := k1.trans (k2.mono (by omega))
  rw [impl_leastSets.body0_eq]
  unfold impl_leastSets.body0
  simp only [env_C, env_Y, env_pick, env_buildSlice, env_load, env_bin, env_un, env_indexAddr, env_append]
  cases d with
  | zero =>
    obtain rfl : k = 2 ^ vs.length := by omega
    repeat (first | with_reducible refine wF ?_ | with_reducible refine wlssF (by omega) ?_ | with_reducible refine wresO (by assumption) ?_ | rw [kLoop_exit] | rw [impl_leastSets.after0_se0_1_5_10_11_12_13])
    exact W.ret ⟨o2.mono (by omega), kk2⟩
  | succ d =>
    have hk : k < 2 ^ vs.length := by omega
    have hkl : k < ((List.range (2 ^ vs.length)).map fun x : Nat => (x : Int)).length := by omega
    obtain ⟨a, eA, la⟩ := (hfx.get k2).at' hkl
    rw [show ((List.range (2 ^ vs.length)).map fun x : Nat => (x : Int))[k] = (k : Int) by simp] at la
    have hts := leastTo_succ P vs.length k
    have htl := leastTo_len P vs.length k
    have l2 : b ≤ h2.length := by have := k2.1; omega
    repeat (first | with_reducible refine wT ?_ | with_reducible refine wbd (by assumption) ?_ | with_reducible refine wlssT (by omega) ?_)
    refine wcall (show W (vcall (CL g lf n) (YL g lf n) (.clo F [(id, 0)]) [.int .i64 (k : Int)] h2) _ from hsf n (by omega) k h2 hk (ha.keep kk2) (hp.keep kk2) (ht.keep kk2)) fun v h3 ⟨hv, k3⟩ => ?_
    subst hv
    have kk3 := kk2.trans (k3.mono kk2.1)
    have o3 := o2.keep k3
    have b3 : Keep b h1 h3 := k2.trans (k3.mono l2)
    cases hPk : P k with
    | false =>
      have hmin : minS P vs.length k = false := by unfold minS; rw [hPk]; rfl
      rw [hmin, if_neg (by decide), List.append_nil] at hts
      repeat (first | with_reducible refine wF ?_ | with_reducible refine wg0 rfl ?_ | with_reducible refine wpF ?_ | with_reducible refine wsm ?_ | with_reducible refine wadd1 (by omega) ?_ | dsimp only)
      exact next _ _ (Nat.lt_succ_self d) ⟨k + 1, q, h3, rfl, by omega, by rw [hts]; exact o3, b3⟩
    | true =>
      repeat (first | with_reducible refine wg1 rfl ?_ | with_reducible refine wsm ?_ | dsimp only)
      refine wcall (spares_W g lf h8 hsf hbig hlf hk n (by omega) (ha.keep kk3) (hp.keep kk3) (ht.keep kk3)) fun v h4 ⟨s, hv, hs, k4⟩ => ?_
      subst hv
      have o4 := o3.keep k4
      have b4 : Keep b h1 h4 := b3.trans (k4.mono (by have := b3.1; omega))
      have l4 : b ≤ h4.length := by have := b4.1; omega
      cases s with
      | true =>
        obtain ⟨j, j1, j2⟩ := hs.1 rfl
        have hmin : minS P vs.length k = false := by
          cases e : minS P vs.length k with
          | false => rfl
          | true =>
            have := (minS_iff.1 e).2 j (bit_small hk j1) j1
            rw [j2] at this; cases this
        rw [hmin, if_neg (by decide), List.append_nil] at hts
        repeat (first | with_reducible refine wF ?_ | with_reducible refine wg1 rfl ?_ | with_reducible refine wpT ?_ | with_reducible refine wnT ?_ | with_reducible refine wpv ?_ | with_reducible refine wadd1 (by omega) ?_ | dsimp only)
        exact next _ _ (Nat.lt_succ_self d) ⟨k + 1, q, h4, rfl, by omega, by rw [hts]; exact o4, b4⟩
      | false =>
        have hmin : minS P vs.length k = true := minS_iff.2 ⟨hPk, fun j hj1 hj2 => by
          cases e : P (without k j) with
          | false => rfl
          | true => have := hs.2 ⟨j, hj2, e⟩; cases this⟩
        rw [hmin, if_pos rfl] at hts
        repeat (first | with_reducible refine wT ?_ | with_reducible refine wg1 rfl ?_ | with_reducible refine wpT ?_ | with_reducible refine wnF ?_ | with_reducible refine wpv ?_ | dsimp only)
        refine wap o4 l4 (by omega) fun q' h5 o5 k5 => ?_
        repeat (first | with_reducible refine wadd1 (by omega) ?_ | dsimp only)
        exact next _ _ (Nat.lt_succ_self d) ⟨k + 1, q', h5, rfl, by omega, by rw [hts]; exact o5, b4.trans k5⟩

theorem wboxWs {Q : PV → PHeap → Prop} {h : PHeap} {p : PV} (hone : p.oneCell = true) {F : PV × PHeap → Res} (hf : ∀ h' id, At h' id [p] → Keep h.length h h' → h.length ≤ id → W (F (.ptr id 0, h')) Q) : W ((boxP p h).bind F) Q := by
  refine wnew (l := [p]) ?_ hf
  unfold boxP PV.cells
  cases p <;> first | rfl | cases hone

theorem suf_link {nodes : Nat} {vs : List (Nat × Nat)} (hn : NetN nodes vs) {p : PV} {id : Nat} (hbig : Big g) (hlf : 1000 < lf) : SufOk g lf vs p id fn_impl_LeastLinks_1 (linkW vs) := by
  intro N hN S h hS ha hp ht
  obtain ⟨n, rfl⟩ : ∃ n, N = n + 1 := ⟨N - 1, by omega⟩
  obtain ⟨h1, e1, k1⟩ := linked_W g lf hn hp hS hbig ht hlf n (by omega)
  rw [impl_LeastLinks_1.call_eq]
  unfold impl_LeastLinks_1.main
  simp only [env_C, env_load]
  refine wbd (ldW1 ha) ?_
  repeat (first | with_reducible refine wrB ?_ | with_reducible refine wbd (by assumption) ?_ | dsimp only)
  exact W.ret ⟨rfl, k1⟩
theorem suf_cut {nodes : Nat} {vs : List (Nat × Nat)} (hn : NetN nodes vs) {p : PV} {id : Nat} (hbig : Big g) (hlf : 1000 < lf) : SufOk g lf vs p id fn_impl_LeastCuts_1 (cutW vs) := by
  intro N hN S h hS ha hp ht
  obtain ⟨n, rfl⟩ : ∃ n, N = n + 1 := ⟨N - 1, by omega⟩
  have h8 := hn.2.2.1
  have h28 : 2 ^ vs.length ≤ 2 ^ 8 := Nat.pow_le_pow_right (by decide) h8
  have h20 := Nat.two_pow_pos vs.length
  have ea := allWires_W g lf hp (by rw [castW_length]; exact h8) n (by omega)
  rw [castW_length] at ea
  have ham := all_minus hS
  obtain ⟨h1, e1, k1⟩ := linked_W g lf hn hp (S := 2 ^ vs.length - 1 - S) (by omega) hbig ht hlf n (by omega)
  have hpl := hp.plain
  have ha1 := ha.keep k1
  have l0 := ldW1 ha
  have l1 := ldW1 ha1
  unfold cutW
  rw [impl_LeastCuts_1.call_eq]
  unfold impl_LeastCuts_1.main
  simp only [env_C, env_load, env_bin, env_un]
  obtain ⟨Z, hZ⟩ : ∃ Z, Z = 2 ^ vs.length := ⟨_, rfl⟩
  rw [← hZ] at ea ham hS e1 h28 h20 ⊢
  repeat (first | with_reducible refine wrB ?_ | with_reducible refine wbd (by assumption) ?_ | (with_reducible refine wck hpl ?_) | (rw [ham]) | (with_reducible refine wn ?_) | with_reducible refine wandNot (by omega) (by omega) ?_ | dsimp only)
  exact W.ret ⟨rfl, k1⟩

theorem llinksOk (hbig : Big g) (hlf : 1000 < lf) : LLinksOk g lf := by
  intro N hN nodes ws p h ht hp hl hf
  obtain ⟨n, rfl⟩ : ∃ n, N = n + 1 := ⟨N - 1, by omega⟩
  have hone := hp.one
  suffices this : W (CL g lf (n + 1) fn_impl_LeastLinks [.int .i64 nodes, p] h) fun q h' => OwnSl h.length h' q (leastLinksL nodes ws) ∧ Keep h.length h h' by
    obtain ⟨q, h', e, o, k⟩ := this
    exact ⟨q, h', e, o, k⟩
  rw [impl_LeastLinks.call_eq]
  unfold impl_LeastLinks.main
  simp only [env_C, env_box, env_load, env_un, env_clos]
  refine wboxWs hone fun h1 id o1 k1 l1 => ?_
  dsimp only
  have ld := ldW1 o1
  obtain ⟨h2, e2, k2⟩ := wiresOk_W g lf n (by omega) nodes (hp.keep k1) hl hf
  have o2 := o1.keep k2
  have ld2 := ldW1 o2
  have kk2 := k1.trans (k2.mono k1.1)
  unfold leastLinksL
  cases hb : wiresB nodes ws with
  | false =>
    rw [hb] at e2
    repeat (first | with_reducible refine wT ?_ | with_reducible refine wnF ?_ | with_reducible refine wrN ?_ | with_reducible refine wbd (by assumption) ?_ | dsimp only)
    exact W.ret ⟨OwnSl.nil _ _, kk2⟩
  | true =>
    rw [hb] at e2
    obtain ⟨M, rfl, hws, hn⟩ := wires_of hb
    have h8 := hn.2.2.1
    have hcl : closP fn_impl_LeastLinks_1 [.ptr id 0] = some (.clo fn_impl_LeastLinks_1 [(id, 0)]) := rfl
    repeat (first | with_reducible refine wF ?_ | with_reducible refine wnT ?_ | with_reducible refine wbd (by assumption) ?_ | dsimp only | simp only [env_C, env_Y, env_g, env_lf, env_pick, env_alloc, env_box, env_build, env_buildSlice, env_load, env_store, env_ptr, env_bin, env_un, env_conv, env_make, env_slice, env_fieldAddr, env_field, env_indexAddr, env_index, env_extract, env_len, env_append, env_max, env_min, env_makeMap, env_lookup, env_update, env_clos, env_bstr])
    refine wcall (leastSets_W g lf h8 (suf_link g lf hn hbig hlf) hbig hlf n (by omega) o2 (hws ▸ hp.keep kk2) (ht.t64.keep kk2)) fun q h3 ⟨o3, k3⟩ => ?_
    rw [natW_length] at o3
    dsimp only
    refine wbd o3.res ?_
    rw [if_pos trivial]
    exact W.ret ⟨o3.mono kk2.1, kk2.trans (k3.mono kk2.1)⟩
theorem lcutsOk (hbig : Big g) (hlf : 1000 < lf) : LCutsOk g lf := by
  intro N hN nodes ws p h ht hp hl hf
  obtain ⟨n, rfl⟩ : ∃ n, N = n + 1 := ⟨N - 1, by omega⟩
  have hone := hp.one
  suffices this : W (CL g lf (n + 1) fn_impl_LeastCuts [.int .i64 nodes, p] h) fun q h' => OwnSl h.length h' q (leastCutsL nodes ws) ∧ Keep h.length h h' by
    obtain ⟨q, h', e, o, k⟩ := this
    exact ⟨q, h', e, o, k⟩
  rw [impl_LeastCuts.call_eq]
  unfold impl_LeastCuts.main
  simp only [env_C, env_box, env_load, env_un, env_clos]
  refine wboxWs hone fun h1 id o1 k1 l1 => ?_
  dsimp only
  have ld := ldW1 o1
  obtain ⟨h2, e2, k2⟩ := wiresOk_W g lf n (by omega) nodes (hp.keep k1) hl hf
  have o2 := o1.keep k2
  have ld2 := ldW1 o2
  have kk2 := k1.trans (k2.mono k1.1)
  unfold leastCutsL
  cases hb : wiresB nodes ws with
  | false =>
    rw [hb] at e2
    repeat (first | with_reducible refine wT ?_ | with_reducible refine wnF ?_ | with_reducible refine wrN ?_ | with_reducible refine wbd (by assumption) ?_ | dsimp only)
    exact W.ret ⟨OwnSl.nil _ _, kk2⟩
  | true =>
    rw [hb] at e2
    obtain ⟨M, rfl, hws, hn⟩ := wires_of hb
    have h8 := hn.2.2.1
    have hcl : closP fn_impl_LeastCuts_1 [.ptr id 0] = some (.clo fn_impl_LeastCuts_1 [(id, 0)]) := rfl
    repeat (first | with_reducible refine wF ?_ | with_reducible refine wnT ?_ | with_reducible refine wbd (by assumption) ?_ | dsimp only | simp only [env_C, env_Y, env_g, env_lf, env_pick, env_alloc, env_box, env_build, env_buildSlice, env_load, env_store, env_ptr, env_bin, env_un, env_conv, env_make, env_slice, env_fieldAddr, env_field, env_indexAddr, env_index, env_extract, env_len, env_append, env_max, env_min, env_makeMap, env_lookup, env_update, env_clos, env_bstr])
    refine wcall (leastSets_W g lf h8 (suf_cut g lf hn hbig hlf) hbig hlf n (by omega) o2 (hws ▸ hp.keep kk2) (ht.t64.keep kk2)) fun q h3 ⟨o3, k3⟩ => ?_
    rw [natW_length] at o3
    dsimp only
    refine wbd o3.res ?_
    rw [if_pos trivial]
    exact W.ret ⟨o3.mono kk2.1, kk2.trans (k3.mono kk2.1)⟩

/-! ### the gap -/
end Go.Proofs.YtihlmjapddjjjacDoor

