/- The program's sets of cells: the cells with a stone, the sides, growing and gaps, walked through with the rules of XW. -/
import Derived.Test.YtiflfnlpkhghpaaW
import Derived.Test.YtiflfnlpkhghpaaQ5
namespace Go.Proofs.Ytiflfnlpkhghpaa
open Go Go.Ip G

/-! ### sets, without program text -/
theorem bit_of_ne {w : Nat} (h : w ≠ 0) : ∃ j, w.testBit j = true := by
  apply Classical.byContradiction
  intro hh
  refine h (Nat.eq_of_testBit_eq fun j => ?_)
  rw [Nat.zero_testBit]
  cases e : w.testBit j with
  | false => rfl
  | true => exact (hh ⟨j, e⟩).elim

theorem orAll_or : ∀ (L : List Int) (w : Nat), orAll w L = w ||| orAll 0 L
  | [], w => by simp [orAll]
  | e :: l, w => by rw [orAll, orAll_or l, orAll, orAll_or l (0 ||| _), Nat.zero_or, Nat.or_assoc]

theorem wide_step {R C S : Nat} (hB : BoardOf R C) : ∀ (m i w : Nat), i + m = R * C → wideFrom R C S m i w = stepFrom (2 ^ 9 - 1) S i ((masksN R C).drop i) w
  | 0, i, w, h => by rw [List.drop_eq_nil_of_le (by rw [masksN_length]; omega)]; rfl
  | m + 1, i, w, h => by
    have hi : i < (masksN R C).length := by rw [masksN_length]; omega
    have hm : (masksN R C)[i] = orAll 0 (nearN R C i) := by simp [masksN]
    have hlt : (masksN R C)[i] < 2 ^ 9 := masksN_lt hB _ (List.getElem_mem hi)
    have ha : (masksN R C)[i] &&& (2 ^ 9 - 1) = (masksN R C)[i] := by rw [Nat.and_two_pow_sub_one_eq_mod, Nat.mod_eq_of_lt hlt]
    rw [wideFrom, List.drop_eq_getElem_cons hi, stepFrom, Nat.and_one_is_mod, wide_step hB m (i + 1) _ (by omega), ha, hm]
    congr 1
    by_cases e : S >>> i % 2 = 1
    · rw [if_pos e, if_neg (by omega), orAll_or]
    · rw [if_neg e, if_pos (by omega)]

theorem wide_bit {R C S : Nat} (hB : BoardOf R C) (j : Nat) : (wideN R C S).testBit j = true ↔ S.testBit j = true ∨ ∃ k, S.testBit k = true ∧ Adj (masksN R C) k j := by
  unfold wideN
  rw [wide_step hB _ 0 S (by omega), List.drop_zero, stepFrom_bit]
  refine or_congr_right ⟨fun ⟨i, h1, h2, _⟩ => ⟨i, by simpa using h1, h2⟩, fun ⟨i, h1, h2⟩ => ⟨i, by simpa using h1, h2, ?_⟩⟩
  have := (adj_in hB h2).2
  have h9 := hB.2.2.2.2
  rw [Nat.testBit_two_pow_sub_one]; simp; omega

theorem wide_lt {R C S : Nat} (hB : BoardOf R C) (hS : S < 2 ^ 9) : wideN R C S < 2 ^ 9 := by
  obtain ⟨h1, h2, h3, h4, h9⟩ := hB; exact wideFrom_lt h1 h2 h3 h4 h9 _ _ _ (by omega) hS

theorem grown_is {M : List Nat} {S T X : Nat} (hS : S < 2 ^ 9) (hT : T < 2 ^ 9) (h0 : ∀ j, S.testBit j = true → X.testBit j = true) (hr : ∀ j, X.testBit j = true → Reach M (S ||| T) S j)
    (hc : ∀ k j, X.testBit k = true → Adj M k j → T.testBit j = true → X.testBit j = true) : X = growN M (S ||| T) S := by
  apply Nat.eq_of_testBit_eq
  intro j
  rw [Bool.eq_iff_iff, grow_bit (Nat.or_lt_two_pow hS hT)]
  refine ⟨hr j, fun h => ?_⟩
  induction h with
  | start h _ => exact h0 _ h
  | step _ ha hs ih =>
    rw [Nat.testBit_or, Bool.or_eq_true] at hs
    rcases hs with hs | hs
    · exact h0 _ hs
    · exact hc _ _ ih ha hs

theorem grown_in {M : List Nat} {own first : Nat} : growN M ((first &&& own) ||| own) (first &&& own) = growN M own first := by
  have : (first &&& own) ||| own = own := by
    apply Nat.eq_of_testBit_eq; intro j
    rw [Nat.testBit_or, Nat.testBit_and]; cases first.testBit j <;> cases own.testBit j <;> rfl
  rw [this]
  unfold growN
  rw [Nat.and_assoc, Nat.and_self]

theorem listN_filter (S : Nat) : listN S = ((List.range 9).filter S.testBit).map fun k : Nat => (k : Int) := by
  have : ∀ m k, listFrom S m k = ((List.range' k m).filter S.testBit).map fun k : Nat => (k : Int) := by
    intro m
    induction m with
    | zero => intro k; rfl
    | succ m ih =>
      intro k
      rw [listFrom, List.range'_succ, List.filter_cons, ih]
      by_cases e : S >>> k % 2 = 1
      · rw [if_pos e, if_pos ((bit_iff S k).1 e), List.map_cons]
      · rw [if_neg e, if_neg (fun h => e ((bit_iff S k).2 h))]
  rw [List.range_eq_range']; exact this 9 0

variable (g : Nat → PV) (lf n : Nat)

/-! ### the program -/
theorem playerOk_W (N : Nat) (hN : 1 ≤ N) (h : PHeap) (p : Int) : CL g lf N fn_impl_playerOk [.int .i64 p] h = some (.bool (playerB p), h) := by
  obtain ⟨n, rfl⟩ : ∃ n, N = n + 1 := ⟨N - 1, by omega⟩
  have : W (CL g lf (n + 1) fn_impl_playerOk [.int .i64 p] h) fun v h' => v = .bool (playerB p) ∧ h' = h := by
    rw [impl_playerOk.call_eq]
    unfold impl_playerOk.main
    simp only [env_pick, env_bin]
    refine weql (fun e => ?_) (fun e => ?_)
    · repeat (first | with_reducible refine wT ?_ | with_reducible refine wF ?_ | with_reducible refine wg1 rfl ?_ | with_reducible refine wg0 rfl ?_ | with_reducible refine wgu ?_ | with_reducible refine wpT ?_ | with_reducible refine wpF ?_ | with_reducible refine wnT ?_ | with_reducible refine wnF ?_ | with_reducible refine wpv ?_ | with_reducible refine wsm ?_ | with_reducible refine wrI ?_ | with_reducible refine wrB ?_ | with_reducible refine wrN ?_ | with_reducible refine wrS ?_ | with_reducible refine wrP ?_ | with_reducible refine wx0 ?_ | with_reducible refine wx1 ?_ | with_reducible refine wx2 ?_ | with_reducible refine wptr ?_ | with_reducible refine wck plain_int ?_ | with_reducible refine wbd (by assumption) ?_ | with_reducible refine wlen (by assumption) ?_ | with_reducible refine wlen (OwnSl.int (by assumption)) ?_ | with_reducible refine wlen (Fix.now (by assumption)) ?_ | with_reducible refine wadd1 (by omega) ?_ | with_reducible refine waddN (by omega) ?_ | with_reducible refine wsub1 (by omega) (by omega) ?_ | with_reducible refine wmulN (by omega) ?_ | with_reducible refine wquoN (by omega) (by omega) ?_ | with_reducible refine wremN (by omega) ?_ | with_reducible refine wshl (by omega) ?_ | with_reducible refine wshr (by omega) ?_ | with_reducible refine wand (by omega) (by omega) ?_ | with_reducible refine wor (by omega) (by omega) ?_ | with_reducible refine wandNot (by omega) (by omega) ?_ | with_reducible refine wlssT (by omega) ?_ | with_reducible refine wlssF (by omega) ?_ | with_reducible refine wleqT (by omega) ?_ | with_reducible refine wleqF (by omega) ?_ | with_reducible refine wgtrT (by omega) ?_ | with_reducible refine wgtrF (by omega) ?_ | with_reducible refine wgeqT (by omega) ?_ | with_reducible refine wgeqF (by omega) ?_ | with_reducible refine weqlT (by omega) ?_ | with_reducible refine weqlF (by omega) ?_ | with_reducible refine wneqT (by omega) ?_ | with_reducible refine wneqF (by omega) ?_ | with_reducible refine wadd (by omega) ?_ | with_reducible refine wsub (by omega) ?_ | with_reducible refine wresO (by assumption) ?_ | rw [kLoop_exit] | rw [kLoop_ret] | dsimp only)
      exact W.ret ⟨by subst e; rfl, rfl⟩
    · repeat (first | with_reducible refine wT ?_ | with_reducible refine wF ?_ | with_reducible refine wg1 rfl ?_ | with_reducible refine wg0 rfl ?_ | with_reducible refine wgu ?_ | with_reducible refine wpT ?_ | with_reducible refine wpF ?_ | with_reducible refine wnT ?_ | with_reducible refine wnF ?_ | with_reducible refine wpv ?_ | with_reducible refine wsm ?_ | with_reducible refine wrI ?_ | with_reducible refine wrB ?_ | with_reducible refine wrN ?_ | with_reducible refine wrS ?_ | with_reducible refine wrP ?_ | with_reducible refine wx0 ?_ | with_reducible refine wx1 ?_ | with_reducible refine wx2 ?_ | with_reducible refine wptr ?_ | with_reducible refine wck plain_int ?_ | with_reducible refine wbd (by assumption) ?_ | with_reducible refine wlen (by assumption) ?_ | with_reducible refine wlen (OwnSl.int (by assumption)) ?_ | with_reducible refine wlen (Fix.now (by assumption)) ?_ | with_reducible refine wadd1 (by omega) ?_ | with_reducible refine waddN (by omega) ?_ | with_reducible refine wsub1 (by omega) (by omega) ?_ | with_reducible refine wmulN (by omega) ?_ | with_reducible refine wquoN (by omega) (by omega) ?_ | with_reducible refine wremN (by omega) ?_ | with_reducible refine wshl (by omega) ?_ | with_reducible refine wshr (by omega) ?_ | with_reducible refine wand (by omega) (by omega) ?_ | with_reducible refine wor (by omega) (by omega) ?_ | with_reducible refine wandNot (by omega) (by omega) ?_ | with_reducible refine wlssT (by omega) ?_ | with_reducible refine wlssF (by omega) ?_ | with_reducible refine wleqT (by omega) ?_ | with_reducible refine wleqF (by omega) ?_ | with_reducible refine wgtrT (by omega) ?_ | with_reducible refine wgtrF (by omega) ?_ | with_reducible refine wgeqT (by omega) ?_ | with_reducible refine wgeqF (by omega) ?_ | with_reducible refine weqlT (by omega) ?_ | with_reducible refine weqlF (by omega) ?_ | with_reducible refine wneqT (by omega) ?_ | with_reducible refine wneqF (by omega) ?_ | with_reducible refine wadd (by omega) ?_ | with_reducible refine wsub (by omega) ?_ | with_reducible refine wresO (by assumption) ?_ | rw [kLoop_exit] | rw [kLoop_ret] | dsimp only)
      refine weql (fun e2 => ?_) (fun e2 => ?_)
      · repeat (first | with_reducible refine wT ?_ | with_reducible refine wF ?_ | with_reducible refine wg1 rfl ?_ | with_reducible refine wg0 rfl ?_ | with_reducible refine wgu ?_ | with_reducible refine wpT ?_ | with_reducible refine wpF ?_ | with_reducible refine wnT ?_ | with_reducible refine wnF ?_ | with_reducible refine wpv ?_ | with_reducible refine wsm ?_ | with_reducible refine wrI ?_ | with_reducible refine wrB ?_ | with_reducible refine wrN ?_ | with_reducible refine wrS ?_ | with_reducible refine wrP ?_ | with_reducible refine wx0 ?_ | with_reducible refine wx1 ?_ | with_reducible refine wx2 ?_ | with_reducible refine wptr ?_ | with_reducible refine wck plain_int ?_ | with_reducible refine wbd (by assumption) ?_ | with_reducible refine wlen (by assumption) ?_ | with_reducible refine wlen (OwnSl.int (by assumption)) ?_ | with_reducible refine wlen (Fix.now (by assumption)) ?_ | with_reducible refine wadd1 (by omega) ?_ | with_reducible refine waddN (by omega) ?_ | with_reducible refine wsub1 (by omega) (by omega) ?_ | with_reducible refine wmulN (by omega) ?_ | with_reducible refine wquoN (by omega) (by omega) ?_ | with_reducible refine wremN (by omega) ?_ | with_reducible refine wshl (by omega) ?_ | with_reducible refine wshr (by omega) ?_ | with_reducible refine wand (by omega) (by omega) ?_ | with_reducible refine wor (by omega) (by omega) ?_ | with_reducible refine wandNot (by omega) (by omega) ?_ | with_reducible refine wlssT (by omega) ?_ | with_reducible refine wlssF (by omega) ?_ | with_reducible refine wleqT (by omega) ?_ | with_reducible refine wleqF (by omega) ?_ | with_reducible refine wgtrT (by omega) ?_ | with_reducible refine wgtrF (by omega) ?_ | with_reducible refine wgeqT (by omega) ?_ | with_reducible refine wgeqF (by omega) ?_ | with_reducible refine weqlT (by omega) ?_ | with_reducible refine weqlF (by omega) ?_ | with_reducible refine wneqT (by omega) ?_ | with_reducible refine wneqF (by omega) ?_ | with_reducible refine wadd (by omega) ?_ | with_reducible refine wsub (by omega) ?_ | with_reducible refine wresO (by assumption) ?_ | rw [kLoop_exit] | rw [kLoop_ret] | dsimp only)
        exact W.ret ⟨by subst e2; rfl, rfl⟩
      · repeat (first | with_reducible refine wT ?_ | with_reducible refine wF ?_ | with_reducible refine wg1 rfl ?_ | with_reducible refine wg0 rfl ?_ | with_reducible refine wgu ?_ | with_reducible refine wpT ?_ | with_reducible refine wpF ?_ | with_reducible refine wnT ?_ | with_reducible refine wnF ?_ | with_reducible refine wpv ?_ | with_reducible refine wsm ?_ | with_reducible refine wrI ?_ | with_reducible refine wrB ?_ | with_reducible refine wrN ?_ | with_reducible refine wrS ?_ | with_reducible refine wrP ?_ | with_reducible refine wx0 ?_ | with_reducible refine wx1 ?_ | with_reducible refine wx2 ?_ | with_reducible refine wptr ?_ | with_reducible refine wck plain_int ?_ | with_reducible refine wbd (by assumption) ?_ | with_reducible refine wlen (by assumption) ?_ | with_reducible refine wlen (OwnSl.int (by assumption)) ?_ | with_reducible refine wlen (Fix.now (by assumption)) ?_ | with_reducible refine wadd1 (by omega) ?_ | with_reducible refine waddN (by omega) ?_ | with_reducible refine wsub1 (by omega) (by omega) ?_ | with_reducible refine wmulN (by omega) ?_ | with_reducible refine wquoN (by omega) (by omega) ?_ | with_reducible refine wremN (by omega) ?_ | with_reducible refine wshl (by omega) ?_ | with_reducible refine wshr (by omega) ?_ | with_reducible refine wand (by omega) (by omega) ?_ | with_reducible refine wor (by omega) (by omega) ?_ | with_reducible refine wandNot (by omega) (by omega) ?_ | with_reducible refine wlssT (by omega) ?_ | with_reducible refine wlssF (by omega) ?_ | with_reducible refine wleqT (by omega) ?_ | with_reducible refine wleqF (by omega) ?_ | with_reducible refine wgtrT (by omega) ?_ | with_reducible refine wgtrF (by omega) ?_ | with_reducible refine wgeqT (by omega) ?_ | with_reducible refine wgeqF (by omega) ?_ | with_reducible refine weqlT (by omega) ?_ | with_reducible refine weqlF (by omega) ?_ | with_reducible refine wneqT (by omega) ?_ | with_reducible refine wneqF (by omega) ?_ | with_reducible refine wadd (by omega) ?_ | with_reducible refine wsub (by omega) ?_ | with_reducible refine wresO (by assumption) ?_ | rw [kLoop_exit] | rw [kLoop_ret] | dsimp only)
        exact W.ret ⟨by rw [show playerB p = false by unfold playerB; exact decide_eq_false (by omega)], rfl⟩
  obtain ⟨_, _, e, rfl, rfl⟩ := this
  exact e

/-- What a next wave adds: the same as the model's. -/
theorem wave_is {R C : Nat} (hB : BoardOf R C) {x free edge : Nat} : x ||| minusN ((edge ||| wideN R C x) &&& free) x = stepFrom free x 0 (masksN R C) (x ||| (edge &&& free)) := by
  apply Nat.eq_of_testBit_eq
  intro j
  rw [Bool.eq_iff_iff, stepFrom_bit, Nat.testBit_or, minusN_bit, Nat.testBit_and, Nat.testBit_or, Nat.testBit_or, Nat.testBit_and]
  have hb := wide_bit (S := x) hB j
  constructor
  · intro h
    simp only [Bool.or_eq_true, Bool.and_eq_true] at h
    rcases h with h | ⟨⟨h | h, hf⟩, _⟩
    · left; simp [h]
    · left; simp [h, hf]
    · rcases hb.1 h with h | ⟨k, h1, h2⟩
      · left; simp [h]
      · right; exact ⟨k, by simpa using h1, h2, hf⟩
  · rintro (h | ⟨k, h1, h2, h3⟩)
    · simp only [Bool.or_eq_true, Bool.and_eq_true] at h
      rcases h with h | ⟨h1, h2⟩
      · simp [h]
      · cases hx : x.testBit j <;> simp [h1, h2]
    · have := hb.2 (.inr ⟨k, by simpa using h1, h2⟩)
      cases hx : x.testBit j <;> simp [this, h3]

end Go.Proofs.Ytiflfnlpkhghpaa
