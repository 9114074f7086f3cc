/- The program's sets of cells: the cells with a stone, the sides, growing and gaps, walked through with the rules of XW. -/
import Derived.Test.YtiflfnlpkhghpaaDoorW
import Derived.Test.YtiflfnlpkhghpaaDoorQ5
namespace Go.Proofs.YtiflfnlpkhghpaaDoor
open Go Go.Ip G

/-! ### sets, without program text -/
theorem bit_of_ne {w : Nat} (h : w ≠ 0) : ∃ j, w.testBit j = true := by
  apply Classical.byContradiction
  intro hh
  refine h (Nat.eq_of_testBit_eq fun j => ?_)
  rw [Nat.zero_testBit]
  cases e : w.testBit j with
  | false => rfl
  | true => exact (hh ⟨j, e⟩).elim

theorem orAll_or : ∀ (L : List Int) (w : Nat), orAll w L = w ||| orAll 0 L
  | [], w => by simp [orAll]
  | e :: l, w => by rw [orAll, orAll_or l, orAll, orAll_or l (0 ||| _), Nat.zero_or, Nat.or_assoc]

theorem wide_step {R C S : Nat} (hB : BoardOf R C) : ∀ (m i w : Nat), i + m = R * C → wideFrom R C S m i w = stepFrom (2 ^ 9 - 1) S i ((masksN R C).drop i) w
  | 0, i, w, h => by rw [List.drop_eq_nil_of_le (by rw [masksN_length]; omega)]; rfl
  | m + 1, i, w, h => by
    have hi : i < (masksN R C).length := by rw [masksN_length]; omega
    have hm : (masksN R C)[i] = orAll 0 (nearN R C i) := by simp [masksN]
    have hlt : (masksN R C)[i] < 2 ^ 9 := masksN_lt hB _ (List.getElem_mem hi)
    have ha : (masksN R C)[i] &&& (2 ^ 9 - 1) = (masksN R C)[i] := by rw [Nat.and_two_pow_sub_one_eq_mod, Nat.mod_eq_of_lt hlt]
    rw [wideFrom, List.drop_eq_getElem_cons hi, stepFrom, Nat.and_one_is_mod, wide_step hB m (i + 1) _ (by omega), ha, hm]
    congr 1
    by_cases e : S >>> i % 2 = 1
    · rw [if_pos e, if_neg (by omega), orAll_or]
    · rw [if_neg e, if_pos (by omega)]

theorem wide_bit {R C S : Nat} (hB : BoardOf R C) (j : Nat) : (wideN R C S).testBit j = true ↔ S.testBit j = true ∨ ∃ k, S.testBit k = true ∧ Adj (masksN R C) k j := by
  unfold wideN
  rw [wide_step hB _ 0 S (by omega), List.drop_zero, stepFrom_bit]
  refine or_congr_right ⟨fun ⟨i, h1, h2, _⟩ => ⟨i, by simpa using h1, h2⟩, fun ⟨i, h1, h2⟩ => ⟨i, by simpa using h1, h2, ?_⟩⟩
  have := (adj_in hB h2).2
  have h9 := hB.2.2.2.2
  rw [Nat.testBit_two_pow_sub_one]; simp; omega

theorem wide_lt {R C S : Nat} (hB : BoardOf R C) (hS : S < 2 ^ 9) : wideN R C S < 2 ^ 9 := by
  obtain ⟨h1, h2, h3, h4, h9⟩ := hB; exact wideFrom_lt h1 h2 h3 h4 h9 _ _ _ (by omega) hS

theorem grown_is {M : List Nat} {S T X : Nat} (hS : S < 2 ^ 9) (hT : T < 2 ^ 9) (h0 : ∀ j, S.testBit j = true → X.testBit j = true) (hr : ∀ j, X.testBit j = true → Reach M (S ||| T) S j)
    (hc : ∀ k j, X.testBit k = true → Adj M k j → T.testBit j = true → X.testBit j = true) : X = growN M (S ||| T) S := by
  apply Nat.eq_of_testBit_eq
  intro j
  rw [Bool.eq_iff_iff, grow_bit (Nat.or_lt_two_pow hS hT)]
  refine ⟨hr j, fun h => ?_⟩
  induction h with
  | start h _ => exact h0 _ h
  | step _ ha hs ih =>
    rw [Nat.testBit_or, Bool.or_eq_true] at hs
    rcases hs with hs | hs
    · exact h0 _ hs
    · exact hc _ _ ih ha hs

theorem grown_in {M : List Nat} {own first : Nat} : growN M ((first &&& own) ||| own) (first &&& own) = growN M own first := by
  have : (first &&& own) ||| own = own := by
    apply Nat.eq_of_testBit_eq; intro j
    rw [Nat.testBit_or, Nat.testBit_and]; cases first.testBit j <;> cases own.testBit j <;> rfl
  rw [this]
  unfold growN
  rw [Nat.and_assoc, Nat.and_self]

theorem listN_filter (S : Nat) : listN S = ((List.range 9).filter S.testBit).map fun k : Nat => (k : Int) := by
  have : ∀ m k, listFrom S m k = ((List.range' k m).filter S.testBit).map fun k : Nat => (k : Int) := by
    intro m
    induction m with
    | zero => intro k; rfl
    | succ m ih =>
      intro k
      rw [listFrom, List.range'_succ, List.filter_cons, ih]
      by_cases e : S >>> k % 2 = 1
      · rw [if_pos e, if_pos ((bit_iff S k).1 e), List.map_cons]
      · rw [if_neg e, if_neg (fun h => e ((bit_iff S k).2 h))]
  rw [List.range_eq_range']; exact this 9 0

variable (g : Nat → PV) (lf n : Nat)

/-! ### the program -/
theorem playerOk_W (N : Nat) (hN : 1 ≤ N) (h : PHeap) (p : Int) : CL g lf N fn_impl_playerOk [.int .i64 p] h = some (.bool (playerB p), h) := by
  obtain ⟨n, rfl⟩ : ∃ n, N = n + 1 := ⟨N - 1, by omega⟩
  have : W (CL g lf (n + 1) fn_impl_playerOk [.int .i64 p] h) fun v h' => v = .bool (playerB p) ∧ h' = h := by
    rw [impl_playerOk.call_eq]
    unfold impl_playerOk.main
    simp only [env_pick, env_bin]
    refine weql (fun e => ?_) (fun e => ?_)
    · repeat (first | with_reducible refine wT ?_ | with_reducible refine wF ?_ | with_reducible refine wg1 rfl ?_ | with_reducible refine wg0 rfl ?_ | with_reducible refine wgu ?_ | with_reducible refine wpT ?_ | with_reducible refine wpF ?_ | with_reducible refine wnT ?_ | with_reducible refine wnF ?_ | with_reducible refine wpv ?_ | with_reducible refine wsm ?_ | with_reducible refine wrI ?_ | with_reducible refine wrB ?_ | with_reducible refine wrN ?_ | with_reducible refine wrS ?_ | with_reducible refine wrP ?_ | with_reducible refine wx0 ?_ | with_reducible refine wx1 ?_ | with_reducible refine wx2 ?_ | with_reducible refine wptr ?_ | with_reducible refine wck plain_int ?_ | with_reducible refine wbd (by assumption) ?_ | with_reducible refine wlen (by assumption) ?_ | with_reducible refine wlen (OwnSl.int (by assumption)) ?_ | with_reducible refine wlen (Fix.now (by assumption)) ?_ | with_reducible refine wadd1 (by omega) ?_ | with_reducible refine waddN (by omega) ?_ | with_reducible refine wsub1 (by omega) (by omega) ?_ | with_reducible refine wmulN (by omega) ?_ | with_reducible refine wquoN (by omega) (by omega) ?_ | with_reducible refine wremN (by omega) ?_ | with_reducible refine wshl (by omega) ?_ | with_reducible refine wshr (by omega) ?_ | with_reducible refine wand (by omega) (by omega) ?_ | with_reducible refine wor (by omega) (by omega) ?_ | with_reducible refine wandNot (by omega) (by omega) ?_ | with_reducible refine wlssT (by omega) ?_ | with_reducible refine wlssF (by omega) ?_ | with_reducible refine wleqT (by omega) ?_ | with_reducible refine wleqF (by omega) ?_ | with_reducible refine wgtrT (by omega) ?_ | with_reducible refine wgtrF (by omega) ?_ | with_reducible refine wgeqT (by omega) ?_ | with_reducible refine wgeqF (by omega) ?_ | with_reducible refine weqlT (by omega) ?_ | with_reducible refine weqlF (by omega) ?_ | with_reducible refine wneqT (by omega) ?_ | with_reducible refine wneqF (by omega) ?_ | with_reducible refine wadd (by omega) ?_ | with_reducible refine wsub (by omega) ?_ | with_reducible refine wresO (by assumption) ?_ | rw [kLoop_exit] | rw [kLoop_ret] | dsimp only)
      exact W.ret ⟨by subst e; rfl, rfl⟩
    · repeat (first | with_reducible refine wT ?_ | with_reducible refine wF ?_ | with_reducible refine wg1 rfl ?_ | with_reducible refine wg0 rfl ?_ | with_reducible refine wgu ?_ | with_reducible refine wpT ?_ | with_reducible refine wpF ?_ | with_reducible refine wnT ?_ | with_reducible refine wnF ?_ | with_reducible refine wpv ?_ | with_reducible refine wsm ?_ | with_reducible refine wrI ?_ | with_reducible refine wrB ?_ | with_reducible refine wrN ?_ | with_reducible refine wrS ?_ | with_reducible refine wrP ?_ | with_reducible refine wx0 ?_ | with_reducible refine wx1 ?_ | with_reducible refine wx2 ?_ | with_reducible refine wptr ?_ | with_reducible refine wck plain_int ?_ | with_reducible refine wbd (by assumption) ?_ | with_reducible refine wlen (by assumption) ?_ | with_reducible refine wlen (OwnSl.int (by assumption)) ?_ | with_reducible refine wlen (Fix.now (by assumption)) ?_ | with_reducible refine wadd1 (by omega) ?_ | with_reducible refine waddN (by omega) ?_ | with_reducible refine wsub1 (by omega) (by omega) ?_ | with_reducible refine wmulN (by omega) ?_ | with_reducible refine wquoN (by omega) (by omega) ?_ | with_reducible refine wremN (by omega) ?_ | with_reducible refine wshl (by omega) ?_ | with_reducible refine wshr (by omega) ?_ | with_reducible refine wand (by omega) (by omega) ?_ | with_reducible refine wor (by omega) (by omega) ?_ | with_reducible refine wandNot (by omega) (by omega) ?_ | with_reducible refine wlssT (by omega) ?_ | with_reducible refine wlssF (by omega) ?_ | with_reducible refine wleqT (by omega) ?_ | with_reducible refine wleqF (by omega) ?_ | with_reducible refine wgtrT (by omega) ?_ | with_reducible refine wgtrF (by omega) ?_ | with_reducible refine wgeqT (by omega) ?_ | with_reducible refine wgeqF (by omega) ?_ | with_reducible refine weqlT (by omega) ?_ | with_reducible refine weqlF (by omega) ?_ | with_reducible refine wneqT (by omega) ?_ | with_reducible refine wneqF (by omega) ?_ | with_reducible refine wadd (by omega) ?_ | with_reducible refine wsub (by omega) ?_ | with_reducible refine wresO (by assumption) ?_ | rw [kLoop_exit] | rw [kLoop_ret] | dsimp only)
      refine weql (fun e2 => ?_) (fun e2 => ?_)
      · repeat (first | with_reducible refine wT ?_ | with_reducible refine wF ?_ | with_reducible refine wg1 rfl ?_ | with_reducible refine wg0 rfl ?_ | with_reducible refine wgu ?_ | with_reducible refine wpT ?_ | with_reducible refine wpF ?_ | with_reducible refine wnT ?_ | with_reducible refine wnF ?_ | with_reducible refine wpv ?_ | with_reducible refine wsm ?_ | with_reducible refine wrI ?_ | with_reducible refine wrB ?_ | with_reducible refine wrN ?_ | with_reducible refine wrS ?_ | with_reducible refine wrP ?_ | with_reducible refine wx0 ?_ | with_reducible refine wx1 ?_ | with_reducible refine wx2 ?_ | with_reducible refine wptr ?_ | with_reducible refine wck plain_int ?_ | with_reducible refine wbd (by assumption) ?_ | with_reducible refine wlen (by assumption) ?_ | with_reducible refine wlen (OwnSl.int (by assumption)) ?_ | with_reducible refine wlen (Fix.now (by assumption)) ?_ | with_reducible refine wadd1 (by omega) ?_ | with_reducible refine waddN (by omega) ?_ | with_reducible refine wsub1 (by omega) (by omega) ?_ | with_reducible refine wmulN (by omega) ?_ | with_reducible refine wquoN (by omega) (by omega) ?_ | with_reducible refine wremN (by omega) ?_ | with_reducible refine wshl (by omega) ?_ | with_reducible refine wshr (by omega) ?_ | with_reducible refine wand (by omega) (by omega) ?_ | with_reducible refine wor (by omega) (by omega) ?_ | with_reducible refine wandNot (by omega) (by omega) ?_ | with_reducible refine wlssT (by omega) ?_ | with_reducible refine wlssF (by omega) ?_ | with_reducible refine wleqT (by omega) ?_ | with_reducible refine wleqF (by omega) ?_ | with_reducible refine wgtrT (by omega) ?_ | with_reducible refine wgtrF (by omega) ?_ | with_reducible refine wgeqT (by omega) ?_ | with_reducible refine wgeqF (by omega) ?_ | with_reducible refine weqlT (by omega) ?_ | with_reducible refine weqlF (by omega) ?_ | with_reducible refine wneqT (by omega) ?_ | with_reducible refine wneqF (by omega) ?_ | with_reducible refine wadd (by omega) ?_ | with_reducible refine wsub (by omega) ?_ | with_reducible refine wresO (by assumption) ?_ | rw [kLoop_exit] | rw [kLoop_ret] | dsimp only)
        exact W.ret ⟨by subst e2; rfl, rfl⟩
      · repeat (first | with_reducible refine wT ?_ | with_reducible refine wF ?_ | with_reducible refine wg1 rfl ?_ | with_reducible refine wg0 rfl ?_ | with_reducible refine wgu ?_ | with_reducible refine wpT ?_ | with_reducible refine wpF ?_ | with_reducible refine wnT ?_ | with_reducible refine wnF ?_ | with_reducible refine wpv ?_ | with_reducible refine wsm ?_ | with_reducible refine wrI ?_ | with_reducible refine wrB ?_ | with_reducible refine wrN ?_ | with_reducible refine wrS ?_ | with_reducible refine wrP ?_ | with_reducible refine wx0 ?_ | with_reducible refine wx1 ?_ | with_reducible refine wx2 ?_ | with_reducible refine wptr ?_ | with_reducible refine wck plain_int ?_ | with_reducible refine wbd (by assumption) ?_ | with_reducible refine wlen (by assumption) ?_ | with_reducible refine wlen (OwnSl.int (by assumption)) ?_ | with_reducible refine wlen (Fix.now (by assumption)) ?_ | with_reducible refine wadd1 (by omega) ?_ | with_reducible refine waddN (by omega) ?_ | with_reducible refine wsub1 (by omega) (by omega) ?_ | with_reducible refine wmulN (by omega) ?_ | with_reducible refine wquoN (by omega) (by omega) ?_ | with_reducible refine wremN (by omega) ?_ | with_reducible refine wshl (by omega) ?_ | with_reducible refine wshr (by omega) ?_ | with_reducible refine wand (by omega) (by omega) ?_ | with_reducible refine wor (by omega) (by omega) ?_ | with_reducible refine wandNot (by omega) (by omega) ?_ | with_reducible refine wlssT (by omega) ?_ | with_reducible refine wlssF (by omega) ?_ | with_reducible refine wleqT (by omega) ?_ | with_reducible refine wleqF (by omega) ?_ | with_reducible refine wgtrT (by omega) ?_ | with_reducible refine wgtrF (by omega) ?_ | with_reducible refine wgeqT (by omega) ?_ | with_reducible refine wgeqF (by omega) ?_ | with_reducible refine weqlT (by omega) ?_ | with_reducible refine weqlF (by omega) ?_ | with_reducible refine wneqT (by omega) ?_ | with_reducible refine wneqF (by omega) ?_ | with_reducible refine wadd (by omega) ?_ | with_reducible refine wsub (by omega) ?_ | with_reducible refine wresO (by assumption) ?_ | rw [kLoop_exit] | rw [kLoop_ret] | dsimp only)
        exact W.ret ⟨by rw [show playerB p = false by unfold playerB; exact decide_eq_false (by omega)], rfl⟩
  obtain ⟨_, _, e, rfl, rfl⟩ := this
  exact e

theorem setOf_W {xs : List Int} {p : PV} {h : PHeap} (what : Int) (hp : IntSl .i64 h p xs) (hl : xs.length ≤ 20) (N : Nat) (hN : 1 ≤ N) (hlf : 1000 < lf) :
    CL g lf N fn_impl_setOf [p, .int .i64 what] h = some (.int .i64 (setL xs what : Int), h) := by
  obtain ⟨n, rfl⟩ : ∃ n, N = n + 1 := ⟨N - 1, by omega⟩
  have : W (CL g lf (n + 1) fn_impl_setOf [p, .int .i64 what] h) fun v h' => v = .int .i64 (setL xs what : Int) ∧ h' = h := by
    rw [impl_setOf.call_eq]
    unfold impl_setOf.main
    simp only [env_lf, env_len]
    repeat (first | with_reducible refine wT ?_ | with_reducible refine wF ?_ | with_reducible refine wg1 rfl ?_ | with_reducible refine wg0 rfl ?_ | with_reducible refine wgu ?_ | with_reducible refine wpT ?_ | with_reducible refine wpF ?_ | with_reducible refine wnT ?_ | with_reducible refine wnF ?_ | with_reducible refine wpv ?_ | with_reducible refine wsm ?_ | with_reducible refine wrI ?_ | with_reducible refine wrB ?_ | with_reducible refine wrN ?_ | with_reducible refine wrS ?_ | with_reducible refine wrP ?_ | with_reducible refine wx0 ?_ | with_reducible refine wx1 ?_ | with_reducible refine wx2 ?_ | with_reducible refine wptr ?_ | with_reducible refine wck plain_int ?_ | with_reducible refine wbd (by assumption) ?_ | with_reducible refine wlen (by assumption) ?_ | with_reducible refine wlen (OwnSl.int (by assumption)) ?_ | with_reducible refine wlen (Fix.now (by assumption)) ?_ | with_reducible refine wadd1 (by omega) ?_ | with_reducible refine waddN (by omega) ?_ | with_reducible refine wsub1 (by omega) (by omega) ?_ | with_reducible refine wmulN (by omega) ?_ | with_reducible refine wquoN (by omega) (by omega) ?_ | with_reducible refine wremN (by omega) ?_ | with_reducible refine wshl (by omega) ?_ | with_reducible refine wshr (by omega) ?_ | with_reducible refine wand (by omega) (by omega) ?_ | with_reducible refine wor (by omega) (by omega) ?_ | with_reducible refine wandNot (by omega) (by omega) ?_ | with_reducible refine wlssT (by omega) ?_ | with_reducible refine wlssF (by omega) ?_ | with_reducible refine wleqT (by omega) ?_ | with_reducible refine wleqF (by omega) ?_ | with_reducible refine wgtrT (by omega) ?_ | with_reducible refine wgtrF (by omega) ?_ | with_reducible refine wgeqT (by omega) ?_ | with_reducible refine wgeqF (by omega) ?_ | with_reducible refine weqlT (by omega) ?_ | with_reducible refine weqlF (by omega) ?_ | with_reducible refine wneqT (by omega) ?_ | with_reducible refine wneqF (by omega) ?_ | with_reducible refine wadd (by omega) ?_ | with_reducible refine wsub (by omega) ?_ | with_reducible refine wresO (by assumption) ?_ | rw [kLoop_exit] | rw [kLoop_ret] | dsimp only)
    refine loopW (fun m s => ∃ i w : Nat, s = impl_setOf.st0 (.int .i64 what) (.int .i64 (w : Int)) p (.int .i64 (xs.length : Int)) (.int .i64 (i : Int)) h ∧ i + m = xs.length ∧ w < 2 ^ 30 ∧ setFrom what i (xs.drop i) w = setL xs what) ?_ lf xs.length _ (by omega) ⟨0, 0, rfl, by omega, by decide, rfl⟩
    rintro n1 m s ⟨i, w, rfl, him, hw, hset⟩ next
    rw [impl_setOf.body0_eq]
    unfold impl_setOf.body0
    simp only [env_load, env_bin, env_indexAddr]
    by_cases hi : i < xs.length
    · have hdx : xs.drop i = xs[i] :: xs.drop (i + 1) := List.drop_eq_getElem_cons hi
      have h30 : 1 <<< i < 2 ^ 30 := by rw [Nat.one_shiftLeft]; exact Nat.pow_lt_pow_right (by decide) (by omega)
      rw [hdx, setFrom] at hset
      repeat (first | with_reducible refine wT ?_ | with_reducible refine wF ?_ | with_reducible refine wg1 rfl ?_ | with_reducible refine wg0 rfl ?_ | with_reducible refine wgu ?_ | with_reducible refine wpT ?_ | with_reducible refine wpF ?_ | with_reducible refine wnT ?_ | with_reducible refine wnF ?_ | with_reducible refine wpv ?_ | with_reducible refine wsm ?_ | with_reducible refine wrI ?_ | with_reducible refine wrB ?_ | with_reducible refine wrN ?_ | with_reducible refine wrS ?_ | with_reducible refine wrP ?_ | with_reducible refine wx0 ?_ | with_reducible refine wx1 ?_ | with_reducible refine wx2 ?_ | with_reducible refine wptr ?_ | with_reducible refine wck plain_int ?_ | with_reducible refine wbd (by assumption) ?_ | with_reducible refine wlen (by assumption) ?_ | with_reducible refine wlen (OwnSl.int (by assumption)) ?_ | with_reducible refine wlen (Fix.now (by assumption)) ?_ | (with_reducible refine wat hp hi fun a hl => ?_) | with_reducible refine wadd1 (by omega) ?_ | with_reducible refine waddN (by omega) ?_ | with_reducible refine wsub1 (by omega) (by omega) ?_ | with_reducible refine wmulN (by omega) ?_ | with_reducible refine wquoN (by omega) (by omega) ?_ | with_reducible refine wremN (by omega) ?_ | with_reducible refine wshl (by omega) ?_ | with_reducible refine wshr (by omega) ?_ | with_reducible refine wand (by omega) (by omega) ?_ | with_reducible refine wor (by omega) (by omega) ?_ | with_reducible refine wandNot (by omega) (by omega) ?_ | with_reducible refine wlssT (by omega) ?_ | with_reducible refine wlssF (by omega) ?_ | with_reducible refine wleqT (by omega) ?_ | with_reducible refine wleqF (by omega) ?_ | with_reducible refine wgtrT (by omega) ?_ | with_reducible refine wgtrF (by omega) ?_ | with_reducible refine wgeqT (by omega) ?_ | with_reducible refine wgeqF (by omega) ?_ | with_reducible refine weqlT (by omega) ?_ | with_reducible refine weqlF (by omega) ?_ | with_reducible refine wneqT (by omega) ?_ | with_reducible refine wneqF (by omega) ?_ | with_reducible refine wadd (by omega) ?_ | with_reducible refine wsub (by omega) ?_ | with_reducible refine wresO (by assumption) ?_ | rw [kLoop_exit] | rw [kLoop_ret] | dsimp only)
      refine weql (fun e => ?_) (fun e => ?_)
      · repeat (first | with_reducible refine wT ?_ | with_reducible refine wF ?_ | with_reducible refine wg1 rfl ?_ | with_reducible refine wg0 rfl ?_ | with_reducible refine wgu ?_ | with_reducible refine wpT ?_ | with_reducible refine wpF ?_ | with_reducible refine wnT ?_ | with_reducible refine wnF ?_ | with_reducible refine wpv ?_ | with_reducible refine wsm ?_ | with_reducible refine wrI ?_ | with_reducible refine wrB ?_ | with_reducible refine wrN ?_ | with_reducible refine wrS ?_ | with_reducible refine wrP ?_ | with_reducible refine wx0 ?_ | with_reducible refine wx1 ?_ | with_reducible refine wx2 ?_ | with_reducible refine wptr ?_ | with_reducible refine wck plain_int ?_ | with_reducible refine wbd (by assumption) ?_ | with_reducible refine wlen (by assumption) ?_ | with_reducible refine wlen (OwnSl.int (by assumption)) ?_ | with_reducible refine wlen (Fix.now (by assumption)) ?_ | with_reducible refine wadd1 (by omega) ?_ | with_reducible refine waddN (by omega) ?_ | with_reducible refine wsub1 (by omega) (by omega) ?_ | with_reducible refine wmulN (by omega) ?_ | with_reducible refine wquoN (by omega) (by omega) ?_ | with_reducible refine wremN (by omega) ?_ | with_reducible refine wshl (by omega) ?_ | with_reducible refine wshr (by omega) ?_ | with_reducible refine wand (by omega) (by omega) ?_ | with_reducible refine wor (by omega) (by omega) ?_ | with_reducible refine wandNot (by omega) (by omega) ?_ | with_reducible refine wlssT (by omega) ?_ | with_reducible refine wlssF (by omega) ?_ | with_reducible refine wleqT (by omega) ?_ | with_reducible refine wleqF (by omega) ?_ | with_reducible refine wgtrT (by omega) ?_ | with_reducible refine wgtrF (by omega) ?_ | with_reducible refine wgeqT (by omega) ?_ | with_reducible refine wgeqF (by omega) ?_ | with_reducible refine weqlT (by omega) ?_ | with_reducible refine weqlF (by omega) ?_ | with_reducible refine wneqT (by omega) ?_ | with_reducible refine wneqF (by omega) ?_ | with_reducible refine wadd (by omega) ?_ | with_reducible refine wsub (by omega) ?_ | with_reducible refine wresO (by assumption) ?_ | rw [kLoop_exit] | rw [kLoop_ret] | dsimp only)
        rw [if_pos e] at hset
        exact next _ _ (show m - 1 < m by omega) ⟨i + 1, _, rfl, by omega, Nat.or_lt_two_pow hw h30, hset⟩
      · repeat (first | with_reducible refine wT ?_ | with_reducible refine wF ?_ | with_reducible refine wg1 rfl ?_ | with_reducible refine wg0 rfl ?_ | with_reducible refine wgu ?_ | with_reducible refine wpT ?_ | with_reducible refine wpF ?_ | with_reducible refine wnT ?_ | with_reducible refine wnF ?_ | with_reducible refine wpv ?_ | with_reducible refine wsm ?_ | with_reducible refine wrI ?_ | with_reducible refine wrB ?_ | with_reducible refine wrN ?_ | with_reducible refine wrS ?_ | with_reducible refine wrP ?_ | with_reducible refine wx0 ?_ | with_reducible refine wx1 ?_ | with_reducible refine wx2 ?_ | with_reducible refine wptr ?_ | with_reducible refine wck plain_int ?_ | with_reducible refine wbd (by assumption) ?_ | with_reducible refine wlen (by assumption) ?_ | with_reducible refine wlen (OwnSl.int (by assumption)) ?_ | with_reducible refine wlen (Fix.now (by assumption)) ?_ | with_reducible refine wadd1 (by omega) ?_ | with_reducible refine waddN (by omega) ?_ | with_reducible refine wsub1 (by omega) (by omega) ?_ | with_reducible refine wmulN (by omega) ?_ | with_reducible refine wquoN (by omega) (by omega) ?_ | with_reducible refine wremN (by omega) ?_ | with_reducible refine wshl (by omega) ?_ | with_reducible refine wshr (by omega) ?_ | with_reducible refine wand (by omega) (by omega) ?_ | with_reducible refine wor (by omega) (by omega) ?_ | with_reducible refine wandNot (by omega) (by omega) ?_ | with_reducible refine wlssT (by omega) ?_ | with_reducible refine wlssF (by omega) ?_ | with_reducible refine wleqT (by omega) ?_ | with_reducible refine wleqF (by omega) ?_ | with_reducible refine wgtrT (by omega) ?_ | with_reducible refine wgtrF (by omega) ?_ | with_reducible refine wgeqT (by omega) ?_ | with_reducible refine wgeqF (by omega) ?_ | with_reducible refine weqlT (by omega) ?_ | with_reducible refine weqlF (by omega) ?_ | with_reducible refine wneqT (by omega) ?_ | with_reducible refine wneqF (by omega) ?_ | with_reducible refine wadd (by omega) ?_ | with_reducible refine wsub (by omega) ?_ | with_reducible refine wresO (by assumption) ?_ | rw [kLoop_exit] | rw [kLoop_ret] | dsimp only)
        rw [if_neg e] at hset
        exact next _ _ (show m - 1 < m by omega) ⟨i + 1, _, rfl, by omega, hw, hset⟩
    · rw [List.drop_eq_nil_of_le (by omega), setFrom] at hset
      repeat (first | with_reducible refine wT ?_ | with_reducible refine wF ?_ | with_reducible refine wg1 rfl ?_ | with_reducible refine wg0 rfl ?_ | with_reducible refine wgu ?_ | with_reducible refine wpT ?_ | with_reducible refine wpF ?_ | with_reducible refine wnT ?_ | with_reducible refine wnF ?_ | with_reducible refine wpv ?_ | with_reducible refine wsm ?_ | with_reducible refine wrI ?_ | with_reducible refine wrB ?_ | with_reducible refine wrN ?_ | with_reducible refine wrS ?_ | with_reducible refine wrP ?_ | with_reducible refine wx0 ?_ | with_reducible refine wx1 ?_ | with_reducible refine wx2 ?_ | with_reducible refine wptr ?_ | with_reducible refine wck plain_int ?_ | with_reducible refine wbd (by assumption) ?_ | with_reducible refine wlen (by assumption) ?_ | with_reducible refine wlen (OwnSl.int (by assumption)) ?_ | with_reducible refine wlen (Fix.now (by assumption)) ?_ | with_reducible refine wadd1 (by omega) ?_ | with_reducible refine waddN (by omega) ?_ | with_reducible refine wsub1 (by omega) (by omega) ?_ | with_reducible refine wmulN (by omega) ?_ | with_reducible refine wquoN (by omega) (by omega) ?_ | with_reducible refine wremN (by omega) ?_ | with_reducible refine wshl (by omega) ?_ | with_reducible refine wshr (by omega) ?_ | with_reducible refine wand (by omega) (by omega) ?_ | with_reducible refine wor (by omega) (by omega) ?_ | with_reducible refine wandNot (by omega) (by omega) ?_ | with_reducible refine wlssT (by omega) ?_ | with_reducible refine wlssF (by omega) ?_ | with_reducible refine wleqT (by omega) ?_ | with_reducible refine wleqF (by omega) ?_ | with_reducible refine wgtrT (by omega) ?_ | with_reducible refine wgtrF (by omega) ?_ | with_reducible refine wgeqT (by omega) ?_ | with_reducible refine wgeqF (by omega) ?_ | with_reducible refine weqlT (by omega) ?_ | with_reducible refine weqlF (by omega) ?_ | with_reducible refine wneqT (by omega) ?_ | with_reducible refine wneqF (by omega) ?_ | with_reducible refine wadd (by omega) ?_ | with_reducible refine wsub (by omega) ?_ | with_reducible refine wresO (by assumption) ?_ | rw [kLoop_exit] | rw [kLoop_ret] | rw [impl_setOf.K0_ret] | rw [impl_setOf.after0_se0_1_5_8_9_10_11] | dsimp only)
      exact W.ret ⟨by rw [hset], rfl⟩
  obtain ⟨_, _, e, rfl, rfl⟩ := this
  exact e

theorem cellsIn_W {S : Nat} (hS : S < 2 ^ 9) (N : Nat) (hN : 1 ≤ N) (hlf : 1000 < lf) (h : PHeap) :
    W (CL g lf N fn_impl_cellsIn [.int .i64 (S : Int)] h) fun q h' => OwnSl h.length h' q (listN S) ∧ Keep h.length h h' := by
  obtain ⟨n, rfl⟩ : ∃ n, N = n + 1 := ⟨N - 1, by omega⟩
  rw [impl_cellsIn.call_eq]
  unfold impl_cellsIn.main
  simp only [env_lf]
  refine loopW (fun m s => ∃ (i : Nat) (ys : List Int) (q : PV) (h1 : PHeap), s = impl_cellsIn.st0 (.int .i64 (S : Int)) q (.int .i64 (i : Int)) h1 ∧ i + m = 9 ∧ ys.length ≤ i ∧ ys ++ listFrom S m i = listN S ∧ OwnSl h.length h1 q ys ∧ Keep h.length h h1) ?_ lf 9 _ (by omega) ⟨0, [], _, h, rfl, by omega, by simp, rfl, OwnSl.nil _ _, Keep.refl _ _⟩
  rintro n1 m s ⟨i, ys, q, h1, rfl, him, hy, hL, o1, k1⟩ next
  rw [impl_cellsIn.body0_eq]
  unfold impl_cellsIn.body0
  simp only [env_buildSlice, env_bin, env_append]
  cases m with
  | zero =>
    rw [listFrom, List.append_nil] at hL
    repeat (first | with_reducible refine wT ?_ | with_reducible refine wF ?_ | with_reducible refine wg1 rfl ?_ | with_reducible refine wg0 rfl ?_ | with_reducible refine wgu ?_ | with_reducible refine wpT ?_ | with_reducible refine wpF ?_ | with_reducible refine wnT ?_ | with_reducible refine wnF ?_ | with_reducible refine wpv ?_ | with_reducible refine wsm ?_ | with_reducible refine wrI ?_ | with_reducible refine wrB ?_ | with_reducible refine wrN ?_ | with_reducible refine wrS ?_ | with_reducible refine wrP ?_ | with_reducible refine wx0 ?_ | with_reducible refine wx1 ?_ | with_reducible refine wx2 ?_ | with_reducible refine wptr ?_ | with_reducible refine wck plain_int ?_ | with_reducible refine wbd (by assumption) ?_ | with_reducible refine wlen (by assumption) ?_ | with_reducible refine wlen (OwnSl.int (by assumption)) ?_ | with_reducible refine wlen (Fix.now (by assumption)) ?_ | with_reducible refine wadd1 (by omega) ?_ | with_reducible refine waddN (by omega) ?_ | with_reducible refine wsub1 (by omega) (by omega) ?_ | with_reducible refine wmulN (by omega) ?_ | with_reducible refine wquoN (by omega) (by omega) ?_ | with_reducible refine wremN (by omega) ?_ | with_reducible refine wshl (by omega) ?_ | with_reducible refine wshr (by omega) ?_ | with_reducible refine wand (by omega) (by omega) ?_ | with_reducible refine wor (by omega) (by omega) ?_ | with_reducible refine wandNot (by omega) (by omega) ?_ | with_reducible refine wlssT (by omega) ?_ | with_reducible refine wlssF (by omega) ?_ | with_reducible refine wleqT (by omega) ?_ | with_reducible refine wleqF (by omega) ?_ | with_reducible refine wgtrT (by omega) ?_ | with_reducible refine wgtrF (by omega) ?_ | with_reducible refine wgeqT (by omega) ?_ | with_reducible refine wgeqF (by omega) ?_ | with_reducible refine weqlT (by omega) ?_ | with_reducible refine weqlF (by omega) ?_ | with_reducible refine wneqT (by omega) ?_ | with_reducible refine wneqF (by omega) ?_ | with_reducible refine wadd (by omega) ?_ | with_reducible refine wsub (by omega) ?_ | with_reducible refine wresO (by assumption) ?_ | rw [kLoop_exit] | rw [kLoop_ret] | rw [impl_cellsIn.K0_ret] | rw [impl_cellsIn.after0_se0_0_3_5_6] | dsimp only)
    exact W.ret ⟨hL ▸ o1, k1⟩
  | succ m =>
    have hsh : S >>> i < 2 ^ 62 := by have : S >>> i ≤ S := by { rw [Nat.shiftRight_eq_div_pow]; exact Nat.div_le_self _ _ }; omega
    rw [listFrom, ← Nat.and_one_is_mod] at hL
    repeat (first | with_reducible refine wT ?_ | with_reducible refine wF ?_ | with_reducible refine wg1 rfl ?_ | with_reducible refine wg0 rfl ?_ | with_reducible refine wgu ?_ | with_reducible refine wpT ?_ | with_reducible refine wpF ?_ | with_reducible refine wnT ?_ | with_reducible refine wnF ?_ | with_reducible refine wpv ?_ | with_reducible refine wsm ?_ | with_reducible refine wrI ?_ | with_reducible refine wrB ?_ | with_reducible refine wrN ?_ | with_reducible refine wrS ?_ | with_reducible refine wrP ?_ | with_reducible refine wx0 ?_ | with_reducible refine wx1 ?_ | with_reducible refine wx2 ?_ | with_reducible refine wptr ?_ | with_reducible refine wck plain_int ?_ | with_reducible refine wbd (by assumption) ?_ | with_reducible refine wlen (by assumption) ?_ | with_reducible refine wlen (OwnSl.int (by assumption)) ?_ | with_reducible refine wlen (Fix.now (by assumption)) ?_ | with_reducible refine wadd1 (by omega) ?_ | with_reducible refine waddN (by omega) ?_ | with_reducible refine wsub1 (by omega) (by omega) ?_ | with_reducible refine wmulN (by omega) ?_ | with_reducible refine wquoN (by omega) (by omega) ?_ | with_reducible refine wremN (by omega) ?_ | with_reducible refine wshl (by omega) ?_ | with_reducible refine wshr (by omega) ?_ | with_reducible refine wand (by omega) (by omega) ?_ | with_reducible refine wor (by omega) (by omega) ?_ | with_reducible refine wandNot (by omega) (by omega) ?_ | with_reducible refine wlssT (by omega) ?_ | with_reducible refine wlssF (by omega) ?_ | with_reducible refine wleqT (by omega) ?_ | with_reducible refine wleqF (by omega) ?_ | with_reducible refine wgtrT (by omega) ?_ | with_reducible refine wgtrF (by omega) ?_ | with_reducible refine wgeqT (by omega) ?_ | with_reducible refine wgeqF (by omega) ?_ | with_reducible refine weqlT (by omega) ?_ | with_reducible refine weqlF (by omega) ?_ | with_reducible refine wneqT (by omega) ?_ | with_reducible refine wneqF (by omega) ?_ | with_reducible refine wadd (by omega) ?_ | with_reducible refine wsub (by omega) ?_ | with_reducible refine wresO (by assumption) ?_ | rw [kLoop_exit] | rw [kLoop_ret] | dsimp only)
    refine wbd (f_and (a := S >>> i) (b := 1) hsh (by decide)) ?_
    refine weql (fun e => ?_) (fun e => ?_)
    · have e' : S >>> i &&& 1 = 1 := by simpa using Int.ofNat_inj.1 e
      rw [if_pos e'] at hL
      repeat (first | with_reducible refine wT ?_ | with_reducible refine wF ?_ | with_reducible refine wg1 rfl ?_ | with_reducible refine wg0 rfl ?_ | with_reducible refine wgu ?_ | with_reducible refine wpT ?_ | with_reducible refine wpF ?_ | with_reducible refine wnT ?_ | with_reducible refine wnF ?_ | with_reducible refine wpv ?_ | with_reducible refine wsm ?_ | with_reducible refine wrI ?_ | with_reducible refine wrB ?_ | with_reducible refine wrN ?_ | with_reducible refine wrS ?_ | with_reducible refine wrP ?_ | with_reducible refine wx0 ?_ | with_reducible refine wx1 ?_ | with_reducible refine wx2 ?_ | with_reducible refine wptr ?_ | with_reducible refine wck plain_int ?_ | with_reducible refine wbd (by assumption) ?_ | with_reducible refine wlen (by assumption) ?_ | with_reducible refine wlen (OwnSl.int (by assumption)) ?_ | with_reducible refine wlen (Fix.now (by assumption)) ?_ | (refine wap o1 k1.1 (by omega) fun p' h' o2 k2 => ?_) | with_reducible refine wadd1 (by omega) ?_ | with_reducible refine waddN (by omega) ?_ | with_reducible refine wsub1 (by omega) (by omega) ?_ | with_reducible refine wmulN (by omega) ?_ | with_reducible refine wquoN (by omega) (by omega) ?_ | with_reducible refine wremN (by omega) ?_ | with_reducible refine wshl (by omega) ?_ | with_reducible refine wshr (by omega) ?_ | with_reducible refine wand (by omega) (by omega) ?_ | with_reducible refine wor (by omega) (by omega) ?_ | with_reducible refine wandNot (by omega) (by omega) ?_ | with_reducible refine wlssT (by omega) ?_ | with_reducible refine wlssF (by omega) ?_ | with_reducible refine wleqT (by omega) ?_ | with_reducible refine wleqF (by omega) ?_ | with_reducible refine wgtrT (by omega) ?_ | with_reducible refine wgtrF (by omega) ?_ | with_reducible refine wgeqT (by omega) ?_ | with_reducible refine wgeqF (by omega) ?_ | with_reducible refine weqlT (by omega) ?_ | with_reducible refine weqlF (by omega) ?_ | with_reducible refine wneqT (by omega) ?_ | with_reducible refine wneqF (by omega) ?_ | with_reducible refine wadd (by omega) ?_ | with_reducible refine wsub (by omega) ?_ | with_reducible refine wresO (by assumption) ?_ | rw [kLoop_exit] | rw [kLoop_ret] | dsimp only)
      exact next _ _ (Nat.lt_succ_self m) ⟨i + 1, ys ++ [(i : Int)], p', h', rfl, by omega, by simp; omega, by rw [List.append_assoc]; exact hL, o2, k1.trans k2⟩
    · have e' : ¬ S >>> i &&& 1 = 1 := fun e2 => e (by rw [e2]; rfl)
      rw [if_neg e'] at hL
      repeat (first | with_reducible refine wT ?_ | with_reducible refine wF ?_ | with_reducible refine wg1 rfl ?_ | with_reducible refine wg0 rfl ?_ | with_reducible refine wgu ?_ | with_reducible refine wpT ?_ | with_reducible refine wpF ?_ | with_reducible refine wnT ?_ | with_reducible refine wnF ?_ | with_reducible refine wpv ?_ | with_reducible refine wsm ?_ | with_reducible refine wrI ?_ | with_reducible refine wrB ?_ | with_reducible refine wrN ?_ | with_reducible refine wrS ?_ | with_reducible refine wrP ?_ | with_reducible refine wx0 ?_ | with_reducible refine wx1 ?_ | with_reducible refine wx2 ?_ | with_reducible refine wptr ?_ | with_reducible refine wck plain_int ?_ | with_reducible refine wbd (by assumption) ?_ | with_reducible refine wlen (by assumption) ?_ | with_reducible refine wlen (OwnSl.int (by assumption)) ?_ | with_reducible refine wlen (Fix.now (by assumption)) ?_ | with_reducible refine wadd1 (by omega) ?_ | with_reducible refine waddN (by omega) ?_ | with_reducible refine wsub1 (by omega) (by omega) ?_ | with_reducible refine wmulN (by omega) ?_ | with_reducible refine wquoN (by omega) (by omega) ?_ | with_reducible refine wremN (by omega) ?_ | with_reducible refine wshl (by omega) ?_ | with_reducible refine wshr (by omega) ?_ | with_reducible refine wand (by omega) (by omega) ?_ | with_reducible refine wor (by omega) (by omega) ?_ | with_reducible refine wandNot (by omega) (by omega) ?_ | with_reducible refine wlssT (by omega) ?_ | with_reducible refine wlssF (by omega) ?_ | with_reducible refine wleqT (by omega) ?_ | with_reducible refine wleqF (by omega) ?_ | with_reducible refine wgtrT (by omega) ?_ | with_reducible refine wgtrF (by omega) ?_ | with_reducible refine wgeqT (by omega) ?_ | with_reducible refine wgeqF (by omega) ?_ | with_reducible refine weqlT (by omega) ?_ | with_reducible refine weqlF (by omega) ?_ | with_reducible refine wneqT (by omega) ?_ | with_reducible refine wneqF (by omega) ?_ | with_reducible refine wadd (by omega) ?_ | with_reducible refine wsub (by omega) ?_ | with_reducible refine wresO (by assumption) ?_ | rw [kLoop_exit] | rw [kLoop_ret] | dsimp only)
      exact next _ _ (Nat.lt_succ_self m) ⟨i + 1, ys, q, h1, rfl, by omega, by omega, hL, o1, k1⟩

theorem sidesOf_W {R C P : Nat} (hB : BoardOf R C) (hP : P = 1 ∨ P = 2) (N : Nat) (hN : 1 ≤ N) (hlf : 1000 < lf) (h : PHeap) :
    CL g lf N fn_impl_sidesOf [.int .i64 (R : Int), .int .i64 (C : Int), .int .i64 (P : Int)] h = some (.tup [.int .i64 (sideN R C P false : Int), .int .i64 (sideN R C P true : Int)], h) := by
  obtain ⟨n, rfl⟩ : ∃ n, N = n + 1 := ⟨N - 1, by omega⟩
  have : W (CL g lf (n + 1) fn_impl_sidesOf [.int .i64 (R : Int), .int .i64 (C : Int), .int .i64 (P : Int)] h) fun v h' => v = .tup [.int .i64 (sideN R C P false : Int), .int .i64 (sideN R C P true : Int)] ∧ h' = h := by
    obtain ⟨h1, h2, h3, h4, h9⟩ := id hB
    rw [impl_sidesOf.call_eq]
    unfold impl_sidesOf.main
    simp only [env_lf, env_bin]
    repeat (first | with_reducible refine wT ?_ | with_reducible refine wF ?_ | with_reducible refine wg1 rfl ?_ | with_reducible refine wg0 rfl ?_ | with_reducible refine wgu ?_ | with_reducible refine wpT ?_ | with_reducible refine wpF ?_ | with_reducible refine wnT ?_ | with_reducible refine wnF ?_ | with_reducible refine wpv ?_ | with_reducible refine wsm ?_ | with_reducible refine wrI ?_ | with_reducible refine wrB ?_ | with_reducible refine wrN ?_ | with_reducible refine wrS ?_ | with_reducible refine wrP ?_ | with_reducible refine wx0 ?_ | with_reducible refine wx1 ?_ | with_reducible refine wx2 ?_ | with_reducible refine wptr ?_ | with_reducible refine wck plain_int ?_ | with_reducible refine wbd (by assumption) ?_ | with_reducible refine wlen (by assumption) ?_ | with_reducible refine wlen (OwnSl.int (by assumption)) ?_ | with_reducible refine wlen (Fix.now (by assumption)) ?_ | with_reducible refine wadd1 (by omega) ?_ | with_reducible refine waddN (by omega) ?_ | with_reducible refine wsub1 (by omega) (by omega) ?_ | with_reducible refine wmulN (by omega) ?_ | with_reducible refine wquoN (by omega) (by omega) ?_ | with_reducible refine wremN (by omega) ?_ | with_reducible refine wshl (by omega) ?_ | with_reducible refine wshr (by omega) ?_ | with_reducible refine wand (by omega) (by omega) ?_ | with_reducible refine wor (by omega) (by omega) ?_ | with_reducible refine wandNot (by omega) (by omega) ?_ | with_reducible refine wlssT (by omega) ?_ | with_reducible refine wlssF (by omega) ?_ | with_reducible refine wleqT (by omega) ?_ | with_reducible refine wleqF (by omega) ?_ | with_reducible refine wgtrT (by omega) ?_ | with_reducible refine wgtrF (by omega) ?_ | with_reducible refine wgeqT (by omega) ?_ | with_reducible refine wgeqF (by omega) ?_ | with_reducible refine weqlT (by omega) ?_ | with_reducible refine weqlF (by omega) ?_ | with_reducible refine wneqT (by omega) ?_ | with_reducible refine wneqF (by omega) ?_ | with_reducible refine wadd (by omega) ?_ | with_reducible refine wsub (by omega) ?_ | with_reducible refine wresO (by assumption) ?_ | rw [kLoop_exit] | rw [kLoop_ret] | dsimp only)
    refine loopW (fun m s => ∃ i w1 w2 : Nat, s = impl_sidesOf.st0 (.int .i64 (R : Int)) (.int .i64 (C : Int)) (.int .i64 (P : Int)) (.int .i64 (w1 : Int)) (.int .i64 (w2 : Int)) (.int .i64 ((R * C : Nat) : Int)) (.int .i64 (i : Int)) h ∧ i + m = R * C ∧ w1 < 2 ^ 9 ∧ w2 < 2 ^ 9 ∧ sideFrom R C P false m i w1 = sideN R C P false ∧ sideFrom R C P true m i w2 = sideN R C P true) ?_ lf (R * C) _ (by omega) ⟨0, 0, 0, rfl, by omega, by decide, by decide, rfl, rfl⟩
    rintro n1 m s ⟨i, w1, w2, rfl, him, hw1, hw2, hs1, hs2⟩ next
    rw [impl_sidesOf.body0_eq]
    unfold impl_sidesOf.body0
    simp only [env_bin]
    cases m with
    | zero =>
      rw [sideFrom] at hs1 hs2
      repeat (first | with_reducible refine wT ?_ | with_reducible refine wF ?_ | with_reducible refine wg1 rfl ?_ | with_reducible refine wg0 rfl ?_ | with_reducible refine wgu ?_ | with_reducible refine wpT ?_ | with_reducible refine wpF ?_ | with_reducible refine wnT ?_ | with_reducible refine wnF ?_ | with_reducible refine wpv ?_ | with_reducible refine wsm ?_ | with_reducible refine wrI ?_ | with_reducible refine wrB ?_ | with_reducible refine wrN ?_ | with_reducible refine wrS ?_ | with_reducible refine wrP ?_ | with_reducible refine wx0 ?_ | with_reducible refine wx1 ?_ | with_reducible refine wx2 ?_ | with_reducible refine wptr ?_ | with_reducible refine wck plain_int ?_ | with_reducible refine wbd (by assumption) ?_ | with_reducible refine wlen (by assumption) ?_ | with_reducible refine wlen (OwnSl.int (by assumption)) ?_ | with_reducible refine wlen (Fix.now (by assumption)) ?_ | with_reducible refine wadd1 (by omega) ?_ | with_reducible refine waddN (by omega) ?_ | with_reducible refine wsub1 (by omega) (by omega) ?_ | with_reducible refine wmulN (by omega) ?_ | with_reducible refine wquoN (by omega) (by omega) ?_ | with_reducible refine wremN (by omega) ?_ | with_reducible refine wshl (by omega) ?_ | with_reducible refine wshr (by omega) ?_ | with_reducible refine wand (by omega) (by omega) ?_ | with_reducible refine wor (by omega) (by omega) ?_ | with_reducible refine wandNot (by omega) (by omega) ?_ | with_reducible refine wlssT (by omega) ?_ | with_reducible refine wlssF (by omega) ?_ | with_reducible refine wleqT (by omega) ?_ | with_reducible refine wleqF (by omega) ?_ | with_reducible refine wgtrT (by omega) ?_ | with_reducible refine wgtrF (by omega) ?_ | with_reducible refine wgeqT (by omega) ?_ | with_reducible refine wgeqF (by omega) ?_ | with_reducible refine weqlT (by omega) ?_ | with_reducible refine weqlF (by omega) ?_ | with_reducible refine wneqT (by omega) ?_ | with_reducible refine wneqF (by omega) ?_ | with_reducible refine wadd (by omega) ?_ | with_reducible refine wsub (by omega) ?_ | with_reducible refine wresO (by assumption) ?_ | rw [kLoop_exit] | rw [kLoop_ret] | rw [impl_sidesOf.K0_ret] | rw [impl_sidesOf.after0_se0_0_1_2_8_9_15_16_17] | dsimp only)
      exact W.ret ⟨by rw [hs1, hs2], rfl⟩
    | succ m =>
      have hsl := shl_lt (show i < 9 by omega)
      rw [sideFrom] at hs1 hs2
      simp only [cond_true, cond_false, decide_eq_true_eq] at hs1 hs2
      obtain ⟨x, hx⟩ : ∃ x, x = atSide C P i := ⟨_, rfl⟩
      obtain ⟨y, hy⟩ : ∃ y, y = endSide R C P := ⟨_, rfl⟩
      rw [← hx] at hs1 hs2
      rw [← hy] at hs2
      have l1 := Nat.or_lt_two_pow hw1 hsl
      have l2 := Nat.or_lt_two_pow hw2 hsl
      rcases hP with rfl | rfl
      · have hx' : x = i / C := hx
        have hy' : y = R - 1 := hy
        by_cases a0 : x = 0 <;> by_cases a1 : x = y 
        all_goals
          first | rw [if_pos a0] at hs1 | rw [if_neg a0] at hs1
          first | rw [if_pos a1] at hs2 | rw [if_neg a1] at hs2
          repeat (first | with_reducible refine wT ?_ | with_reducible refine wF ?_ | with_reducible refine wg1 rfl ?_ | with_reducible refine wg0 rfl ?_ | with_reducible refine wgu ?_ | with_reducible refine wpT ?_ | with_reducible refine wpF ?_ | with_reducible refine wnT ?_ | with_reducible refine wnF ?_ | with_reducible refine wpv ?_ | with_reducible refine wsm ?_ | with_reducible refine wrI ?_ | with_reducible refine wrB ?_ | with_reducible refine wrN ?_ | with_reducible refine wrS ?_ | with_reducible refine wrP ?_ | with_reducible refine wx0 ?_ | with_reducible refine wx1 ?_ | with_reducible refine wx2 ?_ | with_reducible refine wptr ?_ | with_reducible refine wck plain_int ?_ | with_reducible refine wbd (by assumption) ?_ | with_reducible refine wlen (by assumption) ?_ | with_reducible refine wlen (OwnSl.int (by assumption)) ?_ | with_reducible refine wlen (Fix.now (by assumption)) ?_ | (rw [← hx', ← hy']) | with_reducible refine wadd1 (by omega) ?_ | with_reducible refine waddN (by omega) ?_ | with_reducible refine wsub1 (by omega) (by omega) ?_ | with_reducible refine wmulN (by omega) ?_ | with_reducible refine wquoN (by omega) (by omega) ?_ | with_reducible refine wremN (by omega) ?_ | with_reducible refine wshl (by omega) ?_ | with_reducible refine wshr (by omega) ?_ | with_reducible refine wand (by omega) (by omega) ?_ | with_reducible refine wor (by omega) (by omega) ?_ | with_reducible refine wandNot (by omega) (by omega) ?_ | with_reducible refine wlssT (by omega) ?_ | with_reducible refine wlssF (by omega) ?_ | with_reducible refine wleqT (by omega) ?_ | with_reducible refine wleqF (by omega) ?_ | with_reducible refine wgtrT (by omega) ?_ | with_reducible refine wgtrF (by omega) ?_ | with_reducible refine wgeqT (by omega) ?_ | with_reducible refine wgeqF (by omega) ?_ | with_reducible refine weqlT (by omega) ?_ | with_reducible refine weqlF (by omega) ?_ | with_reducible refine wneqT (by omega) ?_ | with_reducible refine wneqF (by omega) ?_ | with_reducible refine wadd (by omega) ?_ | with_reducible refine wsub (by omega) ?_ | with_reducible refine wresO (by assumption) ?_ | rw [kLoop_exit] | rw [kLoop_ret] | dsimp only)
          first
            | exact next _ _ (Nat.lt_succ_self m) ⟨i + 1, _, _, rfl, by omega, l1, l2, hs1, hs2⟩
            | exact next _ _ (Nat.lt_succ_self m) ⟨i + 1, _, _, rfl, by omega, hw1, l2, hs1, hs2⟩
            | exact next _ _ (Nat.lt_succ_self m) ⟨i + 1, _, _, rfl, by omega, l1, hw2, hs1, hs2⟩
            | exact next _ _ (Nat.lt_succ_self m) ⟨i + 1, _, _, rfl, by omega, hw1, hw2, hs1, hs2⟩
      · have hx' : x = i % C := hx
        have hy' : y = C - 1 := hy
        by_cases a0 : x = 0 <;> by_cases a1 : x = y 
        all_goals
          first | rw [if_pos a0] at hs1 | rw [if_neg a0] at hs1
          first | rw [if_pos a1] at hs2 | rw [if_neg a1] at hs2
          repeat (first | with_reducible refine wT ?_ | with_reducible refine wF ?_ | with_reducible refine wg1 rfl ?_ | with_reducible refine wg0 rfl ?_ | with_reducible refine wgu ?_ | with_reducible refine wpT ?_ | with_reducible refine wpF ?_ | with_reducible refine wnT ?_ | with_reducible refine wnF ?_ | with_reducible refine wpv ?_ | with_reducible refine wsm ?_ | with_reducible refine wrI ?_ | with_reducible refine wrB ?_ | with_reducible refine wrN ?_ | with_reducible refine wrS ?_ | with_reducible refine wrP ?_ | with_reducible refine wx0 ?_ | with_reducible refine wx1 ?_ | with_reducible refine wx2 ?_ | with_reducible refine wptr ?_ | with_reducible refine wck plain_int ?_ | with_reducible refine wbd (by assumption) ?_ | with_reducible refine wlen (by assumption) ?_ | with_reducible refine wlen (OwnSl.int (by assumption)) ?_ | with_reducible refine wlen (Fix.now (by assumption)) ?_ | (rw [← hx', ← hy']) | with_reducible refine wadd1 (by omega) ?_ | with_reducible refine waddN (by omega) ?_ | with_reducible refine wsub1 (by omega) (by omega) ?_ | with_reducible refine wmulN (by omega) ?_ | with_reducible refine wquoN (by omega) (by omega) ?_ | with_reducible refine wremN (by omega) ?_ | with_reducible refine wshl (by omega) ?_ | with_reducible refine wshr (by omega) ?_ | with_reducible refine wand (by omega) (by omega) ?_ | with_reducible refine wor (by omega) (by omega) ?_ | with_reducible refine wandNot (by omega) (by omega) ?_ | with_reducible refine wlssT (by omega) ?_ | with_reducible refine wlssF (by omega) ?_ | with_reducible refine wleqT (by omega) ?_ | with_reducible refine wleqF (by omega) ?_ | with_reducible refine wgtrT (by omega) ?_ | with_reducible refine wgtrF (by omega) ?_ | with_reducible refine wgeqT (by omega) ?_ | with_reducible refine wgeqF (by omega) ?_ | with_reducible refine weqlT (by omega) ?_ | with_reducible refine weqlF (by omega) ?_ | with_reducible refine wneqT (by omega) ?_ | with_reducible refine wneqF (by omega) ?_ | with_reducible refine wadd (by omega) ?_ | with_reducible refine wsub (by omega) ?_ | with_reducible refine wresO (by assumption) ?_ | rw [kLoop_exit] | rw [kLoop_ret] | dsimp only)
          first
            | exact next _ _ (Nat.lt_succ_self m) ⟨i + 1, _, _, rfl, by omega, l1, l2, hs1, hs2⟩
            | exact next _ _ (Nat.lt_succ_self m) ⟨i + 1, _, _, rfl, by omega, hw1, l2, hs1, hs2⟩
            | exact next _ _ (Nat.lt_succ_self m) ⟨i + 1, _, _, rfl, by omega, l1, hw2, hs1, hs2⟩
            | exact next _ _ (Nat.lt_succ_self m) ⟨i + 1, _, _, rfl, by omega, hw1, hw2, hs1, hs2⟩
  obtain ⟨_, _, e, rfl, rfl⟩ := this
  exact e

theorem grown_W {R C S T : Nat} (hB : BoardOf R C) (hS : S < 2 ^ 9) (hT : T < 2 ^ 9) (N : Nat) (hN : 6 ≤ N) (hlf : 1000 < lf) {h : PHeap} (ht : Tab g h) :
    ∃ h', CL g lf N fn_impl_grown [.int .i64 (R : Int), .int .i64 (C : Int), .int .i64 (S : Int), .int .i64 (T : Int)] h = some (.int .i64 (growN (masksN R C) (S ||| T) S : Int), h') ∧ Keep h.length h h' := by
  obtain ⟨n, rfl⟩ : ∃ n, N = n + 1 := ⟨N - 1, by omega⟩
  have : W (CL g lf (n + 1) fn_impl_grown [.int .i64 (R : Int), .int .i64 (C : Int), .int .i64 (S : Int), .int .i64 (T : Int)] h) fun v h' => v = .int .i64 (growN (masksN R C) (S ||| T) S : Int) ∧ Keep h.length h h' := by
    rw [impl_grown.call_eq]
    unfold impl_grown.main
    simp only [env_lf]
    refine loopW (fun m s => ∃ (X w : Nat) (h1 : PHeap), s = impl_grown.st0 (.int .i64 (R : Int)) (.int .i64 (C : Int)) (.int .i64 (X : Int)) (.int .i64 (T : Int)) (.int .i64 (w : Int)) h1 ∧ Keep h.length h h1 ∧ Tab g h1 ∧ X < 2 ^ 9 ∧ (∀ j, w.testBit j = true → X.testBit j = true) ∧
      (∀ j, S.testBit j = true → X.testBit j = true) ∧ (∀ j, X.testBit j = true → Reach (masksN R C) (S ||| T) S j) ∧ (∀ k j, X.testBit k = true → w.testBit k = false → Adj (masksN R C) k j → T.testBit j = true → X.testBit j = true) ∧ m = (512 - X) + (if w = 0 then 0 else 1)) ?_ lf (512 - S + (if S = 0 then 0 else 1)) _ (by split <;> omega)
      ⟨S, S, h, rfl, Keep.refl _ _, ht, hS, fun _ h => h, fun _ h => h, fun j hj => .start hj (by rw [Nat.testBit_or, hj]; rfl), fun k j h1 h2 _ _ => (by rw [h1] at h2; cases h2), rfl⟩
    rintro n1 m s ⟨X, w, h1, rfl, k1, t1, hX, hw, hSX, hXr, hc, hm⟩ next
    rw [impl_grown.body0_eq]
    unfold impl_grown.body0
    simp only [env_C, env_bin]
    by_cases e : w = 0
    · repeat (first | with_reducible refine wT ?_ | with_reducible refine wF ?_ | with_reducible refine wg1 rfl ?_ | with_reducible refine wg0 rfl ?_ | with_reducible refine wgu ?_ | with_reducible refine wpT ?_ | with_reducible refine wpF ?_ | with_reducible refine wnT ?_ | with_reducible refine wnF ?_ | with_reducible refine wpv ?_ | with_reducible refine wsm ?_ | with_reducible refine wrI ?_ | with_reducible refine wrB ?_ | with_reducible refine wrN ?_ | with_reducible refine wrS ?_ | with_reducible refine wrP ?_ | with_reducible refine wx0 ?_ | with_reducible refine wx1 ?_ | with_reducible refine wx2 ?_ | with_reducible refine wptr ?_ | with_reducible refine wck plain_int ?_ | with_reducible refine wbd (by assumption) ?_ | with_reducible refine wlen (by assumption) ?_ | with_reducible refine wlen (OwnSl.int (by assumption)) ?_ | with_reducible refine wlen (Fix.now (by assumption)) ?_ | with_reducible refine wadd1 (by omega) ?_ | with_reducible refine waddN (by omega) ?_ | with_reducible refine wsub1 (by omega) (by omega) ?_ | with_reducible refine wmulN (by omega) ?_ | with_reducible refine wquoN (by omega) (by omega) ?_ | with_reducible refine wremN (by omega) ?_ | with_reducible refine wshl (by omega) ?_ | with_reducible refine wshr (by omega) ?_ | with_reducible refine wand (by omega) (by omega) ?_ | with_reducible refine wor (by omega) (by omega) ?_ | with_reducible refine wandNot (by omega) (by omega) ?_ | with_reducible refine wlssT (by omega) ?_ | with_reducible refine wlssF (by omega) ?_ | with_reducible refine wleqT (by omega) ?_ | with_reducible refine wleqF (by omega) ?_ | with_reducible refine wgtrT (by omega) ?_ | with_reducible refine wgtrF (by omega) ?_ | with_reducible refine wgeqT (by omega) ?_ | with_reducible refine wgeqF (by omega) ?_ | with_reducible refine weqlT (by omega) ?_ | with_reducible refine weqlF (by omega) ?_ | with_reducible refine wneqT (by omega) ?_ | with_reducible refine wneqF (by omega) ?_ | with_reducible refine wadd (by omega) ?_ | with_reducible refine wsub (by omega) ?_ | with_reducible refine wresO (by assumption) ?_ | rw [kLoop_exit] | rw [kLoop_ret] | rw [impl_grown.K0_ret] | rw [impl_grown.after0_se0_0_1_2_3_9_12] | dsimp only)
      refine W.ret ⟨?_, k1⟩
      rw [grown_is hS hT hSX hXr fun k j h1 h2 h3 => hc k j h1 (by rw [e, Nat.zero_testBit]) h2 h3]
    · have hw9 : w < 2 ^ 9 := Nat.lt_of_le_of_lt (sub_le hw) hX
      obtain ⟨b1, b2, b3, b4, b5⟩ := id hB
      obtain ⟨h2, e2, k2⟩ := withNear_calls g lf b1 b2 b3 b4 b5 hw9 n (by omega) (by omega) t1
      have hwl := wide_lt hB hw9
      have hal : wideN R C w &&& T < 2 ^ 9 := Nat.and_lt_two_pow _ hT
      have hml : minusN (wideN R C w &&& T) X < 2 ^ 9 := minusN_lt hal
      repeat (first | with_reducible refine wT ?_ | with_reducible refine wF ?_ | with_reducible refine wg1 rfl ?_ | with_reducible refine wg0 rfl ?_ | with_reducible refine wgu ?_ | with_reducible refine wpT ?_ | with_reducible refine wpF ?_ | with_reducible refine wnT ?_ | with_reducible refine wnF ?_ | with_reducible refine wpv ?_ | with_reducible refine wsm ?_ | with_reducible refine wrI ?_ | with_reducible refine wrB ?_ | with_reducible refine wrN ?_ | with_reducible refine wrS ?_ | with_reducible refine wrP ?_ | with_reducible refine wx0 ?_ | with_reducible refine wx1 ?_ | with_reducible refine wx2 ?_ | with_reducible refine wptr ?_ | with_reducible refine wck plain_int ?_ | with_reducible refine wbd (by assumption) ?_ | with_reducible refine wlen (by assumption) ?_ | with_reducible refine wlen (OwnSl.int (by assumption)) ?_ | with_reducible refine wlen (Fix.now (by assumption)) ?_ | with_reducible refine wadd1 (by omega) ?_ | with_reducible refine waddN (by omega) ?_ | with_reducible refine wsub1 (by omega) (by omega) ?_ | with_reducible refine wmulN (by omega) ?_ | with_reducible refine wquoN (by omega) (by omega) ?_ | with_reducible refine wremN (by omega) ?_ | with_reducible refine wshl (by omega) ?_ | with_reducible refine wshr (by omega) ?_ | with_reducible refine wand (by omega) (by omega) ?_ | with_reducible refine wor (by omega) (by omega) ?_ | with_reducible refine wandNot (by omega) (by omega) ?_ | with_reducible refine wlssT (by omega) ?_ | with_reducible refine wlssF (by omega) ?_ | with_reducible refine wleqT (by omega) ?_ | with_reducible refine wleqF (by omega) ?_ | with_reducible refine wgtrT (by omega) ?_ | with_reducible refine wgtrF (by omega) ?_ | with_reducible refine wgeqT (by omega) ?_ | with_reducible refine wgeqF (by omega) ?_ | with_reducible refine weqlT (by omega) ?_ | with_reducible refine weqlF (by omega) ?_ | with_reducible refine wneqT (by omega) ?_ | with_reducible refine wneqF (by omega) ?_ | with_reducible refine wadd (by omega) ?_ | with_reducible refine wsub (by omega) ?_ | with_reducible refine wresO (by assumption) ?_ | rw [kLoop_exit] | rw [kLoop_ret] | dsimp only)
      obtain ⟨w', hw'⟩ : ∃ w', w' = minusN (wideN R C w &&& T) X := ⟨_, rfl⟩
      have hb : ∀ j, w'.testBit j = true ↔ (w.testBit j = true ∨ ∃ k, w.testBit k = true ∧ Adj (masksN R C) k j) ∧ T.testBit j = true ∧ X.testBit j = false := fun j => by
        rw [hw', minusN_bit, Nat.testBit_and, ← wide_bit hB]; cases (wideN R C w).testBit j <;> cases T.testBit j <;> cases X.testBit j <;> simp
      rw [← hw'] at hml ⊢
      have hor : X ||| w' < 2 ^ 9 := Nat.or_lt_two_pow hX hml
      have hle : X ≤ X ||| w' := Nat.left_le_or
      have hne : w' ≠ 0 → X ≠ X ||| w' := fun hz he => by
        obtain ⟨j, hj⟩ := bit_of_ne hz
        have h1 := ((hb j).1 hj).2.2
        rw [he, Nat.testBit_or, hj, Bool.or_true] at h1; cases h1
      refine next _ _ ?_ ⟨X ||| w', w', h2, rfl, k1.trans (k2.mono k1.1), t1.keep k2, hor, fun j hj => by rw [Nat.testBit_or, hj, Bool.or_true], fun j hj => by rw [Nat.testBit_or, hSX j hj, Bool.true_or], ?_, ?_, rfl⟩
      · rw [hm, if_neg e]
        by_cases e' : w' = 0
        · rw [if_pos e']; omega
        · rw [if_neg e']; have := hne e'; omega
      · intro j hj
        rw [Nat.testBit_or, Bool.or_eq_true] at hj
        rcases hj with hj | hj
        · exact hXr j hj
        · obtain ⟨h1 | ⟨k, h1, h2⟩, h3, h4⟩ := (hb j).1 hj
          · rw [hw j h1] at h4; cases h4
          · exact .step (hXr k (hw k h1)) h2 (by rw [Nat.testBit_or, h3, Bool.or_true])
      · intro k j h1 h2 h3 h4
        rw [Nat.testBit_or, h2, Bool.or_false] at h1
        rw [Nat.testBit_or]
        by_cases hk : w.testBit k = true
        · cases hx : X.testBit j with
          | true => rfl
          | false => rw [(hb j).2 ⟨.inr ⟨k, hk, h3⟩, h4, hx⟩]; rfl
        · rw [hc k j h1 (by simpa using hk) h3 h4]; rfl
  obtain ⟨_, h', e, rfl, k⟩ := this
  exact ⟨h', e, k⟩

/-- What a next wave adds: the same as the model's. -/
theorem wave_is {R C : Nat} (hB : BoardOf R C) {x free edge : Nat} : x ||| minusN ((edge ||| wideN R C x) &&& free) x = stepFrom free x 0 (masksN R C) (x ||| (edge &&& free)) := by
  apply Nat.eq_of_testBit_eq
  intro j
  rw [Bool.eq_iff_iff, stepFrom_bit, Nat.testBit_or, minusN_bit, Nat.testBit_and, Nat.testBit_or, Nat.testBit_or, Nat.testBit_and]
  have hb := wide_bit (S := x) hB j
  constructor
  · intro h
    simp only [Bool.or_eq_true, Bool.and_eq_true] at h
    rcases h with h | ⟨⟨h | h, hf⟩, _⟩
    · left; simp [h]
    · left; simp [h, hf]
    · rcases hb.1 h with h | ⟨k, h1, h2⟩
      · left; simp [h]
      · right; exact ⟨k, by simpa using h1, h2, hf⟩
  · rintro (h | ⟨k, h1, h2, h3⟩)
    · simp only [Bool.or_eq_true, Bool.and_eq_true] at h
      rcases h with h | ⟨h1, h2⟩
      · simp [h]
      · cases hx : x.testBit j <;> simp [h1, h2]
    · have := hb.2 (.inr ⟨k, by simpa using h1, h2⟩)
      cases hx : x.testBit j <;> simp [this, h3]

theorem gapAcross_W {R C P own free : Nat} (hB : BoardOf R C) (hP : P = 1 ∨ P = 2) (ho : own < 2 ^ 9) (hf : free < 2 ^ (R * C)) (N : Nat) (hN : 7 ≤ N) (hlf : 1000 < lf) {h : PHeap} (ht : Tab g h) :
    ∃ h', CL g lf N fn_impl_gapAcross [.int .i64 (R : Int), .int .i64 (C : Int), .int .i64 (own : Int), .int .i64 (free : Int), .int .i64 (P : Int)] h = some (.int .i64 (gapN (masksN R C) own free (sideN R C P false) (sideN R C P true) (R * C)), h') ∧ Keep h.length h h' := by
  obtain ⟨n, rfl⟩ : ∃ n, N = n + 1 := ⟨N - 1, by omega⟩
  have hspec := gapN_spec (M := masksN R C) (own := own) (free := free) (edge := sideN R C P false) (last := sideN R C P true) hB.2.2.2.2 ho hf
  have hf9 : free < 2 ^ 9 := Nat.lt_of_lt_of_le hf (Nat.pow_le_pow_right (by decide) hB.2.2.2.2)
  have e1 := sidesOf_W g lf hB hP n (by omega) hlf h
  have s1 := sideN_lt (P := P) (last := false) hB
  have s2 := sideN_lt (P := P) (last := true) hB
  obtain ⟨edge, hedge⟩ : ∃ x, x = sideN R C P false := ⟨_, rfl⟩
  obtain ⟨last, hlast⟩ : ∃ x, x = sideN R C P true := ⟨_, rfl⟩
  rw [← hedge] at hspec e1 s1 ⊢
  rw [← hlast] at hspec e1 s2 ⊢
  have : W (CL g lf (n + 1) fn_impl_gapAcross [.int .i64 (R : Int), .int .i64 (C : Int), .int .i64 (own : Int), .int .i64 (free : Int), .int .i64 (P : Int)] h) fun v h' => v = .int .i64 (gapN (masksN R C) own free edge last (R * C)) ∧ Keep h.length h h' := by
    have a1 : edge &&& own < 2 ^ 9 := Nat.and_lt_two_pow _ ho
    obtain ⟨h1, e2, k1⟩ := grown_W g lf hB a1 ho n (by omega) hlf ht
    rw [grown_in] at e2
    rw [impl_gapAcross.call_eq]
    unfold impl_gapAcross.main
    simp only [env_C, env_lf, env_bin, env_extract]
    repeat (first | with_reducible refine wT ?_ | with_reducible refine wF ?_ | with_reducible refine wg1 rfl ?_ | with_reducible refine wg0 rfl ?_ | with_reducible refine wgu ?_ | with_reducible refine wpT ?_ | with_reducible refine wpF ?_ | with_reducible refine wnT ?_ | with_reducible refine wnF ?_ | with_reducible refine wpv ?_ | with_reducible refine wsm ?_ | with_reducible refine wrI ?_ | with_reducible refine wrB ?_ | with_reducible refine wrN ?_ | with_reducible refine wrS ?_ | with_reducible refine wrP ?_ | with_reducible refine wx0 ?_ | with_reducible refine wx1 ?_ | with_reducible refine wx2 ?_ | with_reducible refine wptr ?_ | with_reducible refine wck plain_int ?_ | with_reducible refine wbd (by assumption) ?_ | with_reducible refine wlen (by assumption) ?_ | with_reducible refine wlen (OwnSl.int (by assumption)) ?_ | with_reducible refine wlen (Fix.now (by assumption)) ?_ | with_reducible refine wadd1 (by omega) ?_ | with_reducible refine waddN (by omega) ?_ | with_reducible refine wsub1 (by omega) (by omega) ?_ | with_reducible refine wmulN (by omega) ?_ | with_reducible refine wquoN (by omega) (by omega) ?_ | with_reducible refine wremN (by omega) ?_ | with_reducible refine wshl (by omega) ?_ | with_reducible refine wshr (by omega) ?_ | with_reducible refine wand (by omega) (by omega) ?_ | with_reducible refine wor (by omega) (by omega) ?_ | with_reducible refine wandNot (by omega) (by omega) ?_ | with_reducible refine wlssT (by omega) ?_ | with_reducible refine wlssF (by omega) ?_ | with_reducible refine wleqT (by omega) ?_ | with_reducible refine wleqF (by omega) ?_ | with_reducible refine wgtrT (by omega) ?_ | with_reducible refine wgtrF (by omega) ?_ | with_reducible refine wgeqT (by omega) ?_ | with_reducible refine wgeqF (by omega) ?_ | with_reducible refine weqlT (by omega) ?_ | with_reducible refine weqlF (by omega) ?_ | with_reducible refine wneqT (by omega) ?_ | with_reducible refine wneqF (by omega) ?_ | with_reducible refine wadd (by omega) ?_ | with_reducible refine wsub (by omega) ?_ | with_reducible refine wresO (by assumption) ?_ | rw [kLoop_exit] | rw [kLoop_ret] | dsimp only)
    refine loopW (fun m s => ∃ (X k : Nat) (h2 : PHeap), s = impl_gapAcross.st0 (.int .i64 (R : Int)) (.int .i64 (C : Int)) (.int .i64 (own : Int)) (.int .i64 (free : Int)) (.int .i64 (edge : Int)) (.int .i64 (last : Int)) (.int .i64 (X : Int)) (.int .i64 (k : Int)) h2 ∧ Keep h.length h h2 ∧ Tab g h2 ∧ X < 2 ^ 9 ∧ k ≤ X ∧
      (∀ j, X.testBit j = true ↔ Cost (masksN R C) edge own free k j) ∧ (∀ i, i < k → ¬ Hits (masksN R C) own free edge last i) ∧ m = 512 - X) ?_ lf (512 - growN (masksN R C) own edge) _ (by omega)
      ⟨_, 0, h1, rfl, k1, ht.keep k1, grow_lt ho, Nat.zero_le _, fun j => by rw [grow_bit ho, cost_zero], fun i hi => by omega, rfl⟩
    rintro n1 m s ⟨X, k, h2, rfl, k2, t2, hX, hkX, hg, hno, hm⟩ next
    rw [impl_gapAcross.body0_eq]
    unfold impl_gapAcross.body0
    simp only [env_C, env_bin]
    by_cases hl : X &&& last = 0
    · have hnh : ¬ Hits (masksN R C) own free edge last k := fun ⟨j, hj, hc⟩ => and_zero.1 hl j ((hg j).2 hc) hj
      obtain ⟨b1, b2, b3, b4, b5⟩ := id hB
      obtain ⟨h3, e3, k3⟩ := withNear_calls g lf b1 b2 b3 b4 b5 hX n (by omega) (by omega) t2
      have hwl := wide_lt hB hX
      have hol : edge ||| wideN R C X < 2 ^ 9 := Nat.or_lt_two_pow s1 hwl
      have hal : (edge ||| wideN R C X) &&& free < 2 ^ 9 := Nat.and_lt_two_pow _ hf9
      have hml : minusN ((edge ||| wideN R C X) &&& free) X < 2 ^ 9 := minusN_lt hal
      have hwi := wave_is hB (x := X) (free := free) (edge := edge)
      have hnb := next_bit hg
      rw [← hwi] at hnb
      have hws := wave_succ hg (by rw [← hwi]; exact Nat.or_lt_two_pow ho (Nat.or_lt_two_pow hX hml))
      rw [← hwi] at hws
      repeat (first | with_reducible refine wT ?_ | with_reducible refine wF ?_ | with_reducible refine wg1 rfl ?_ | with_reducible refine wg0 rfl ?_ | with_reducible refine wgu ?_ | with_reducible refine wpT ?_ | with_reducible refine wpF ?_ | with_reducible refine wnT ?_ | with_reducible refine wnF ?_ | with_reducible refine wpv ?_ | with_reducible refine wsm ?_ | with_reducible refine wrI ?_ | with_reducible refine wrB ?_ | with_reducible refine wrN ?_ | with_reducible refine wrS ?_ | with_reducible refine wrP ?_ | with_reducible refine wx0 ?_ | with_reducible refine wx1 ?_ | with_reducible refine wx2 ?_ | with_reducible refine wptr ?_ | with_reducible refine wck plain_int ?_ | with_reducible refine wbd (by assumption) ?_ | with_reducible refine wlen (by assumption) ?_ | with_reducible refine wlen (OwnSl.int (by assumption)) ?_ | with_reducible refine wlen (Fix.now (by assumption)) ?_ | with_reducible refine wadd1 (by omega) ?_ | with_reducible refine waddN (by omega) ?_ | with_reducible refine wsub1 (by omega) (by omega) ?_ | with_reducible refine wmulN (by omega) ?_ | with_reducible refine wquoN (by omega) (by omega) ?_ | with_reducible refine wremN (by omega) ?_ | with_reducible refine wshl (by omega) ?_ | with_reducible refine wshr (by omega) ?_ | with_reducible refine wand (by omega) (by omega) ?_ | with_reducible refine wor (by omega) (by omega) ?_ | with_reducible refine wandNot (by omega) (by omega) ?_ | with_reducible refine wlssT (by omega) ?_ | with_reducible refine wlssF (by omega) ?_ | with_reducible refine wleqT (by omega) ?_ | with_reducible refine wleqF (by omega) ?_ | with_reducible refine wgtrT (by omega) ?_ | with_reducible refine wgtrF (by omega) ?_ | with_reducible refine wgeqT (by omega) ?_ | with_reducible refine wgeqF (by omega) ?_ | with_reducible refine weqlT (by omega) ?_ | with_reducible refine weqlF (by omega) ?_ | with_reducible refine wneqT (by omega) ?_ | with_reducible refine wneqF (by omega) ?_ | with_reducible refine wadd (by omega) ?_ | with_reducible refine wsub (by omega) ?_ | with_reducible refine wresO (by assumption) ?_ | rw [kLoop_exit] | rw [kLoop_ret] | dsimp only)
      obtain ⟨w', hw'⟩ : ∃ w', w' = minusN ((edge ||| wideN R C X) &&& free) X := ⟨_, rfl⟩
      have hdis : ∀ j, w'.testBit j = true → X.testBit j = false := fun j hj => by rw [hw', minusN_bit, Bool.and_eq_true] at hj; simpa using hj.2
      rw [← hw'] at hml hnb hws ⊢
      by_cases e : w' = 0
      · repeat (first | with_reducible refine wT ?_ | with_reducible refine wF ?_ | with_reducible refine wg1 rfl ?_ | with_reducible refine wg0 rfl ?_ | with_reducible refine wgu ?_ | with_reducible refine wpT ?_ | with_reducible refine wpF ?_ | with_reducible refine wnT ?_ | with_reducible refine wnF ?_ | with_reducible refine wpv ?_ | with_reducible refine wsm ?_ | with_reducible refine wrI ?_ | with_reducible refine wrB ?_ | with_reducible refine wrN ?_ | with_reducible refine wrS ?_ | with_reducible refine wrP ?_ | with_reducible refine wx0 ?_ | with_reducible refine wx1 ?_ | with_reducible refine wx2 ?_ | with_reducible refine wptr ?_ | with_reducible refine wck plain_int ?_ | with_reducible refine wbd (by assumption) ?_ | with_reducible refine wlen (by assumption) ?_ | with_reducible refine wlen (OwnSl.int (by assumption)) ?_ | with_reducible refine wlen (Fix.now (by assumption)) ?_ | with_reducible refine wadd1 (by omega) ?_ | with_reducible refine waddN (by omega) ?_ | with_reducible refine wsub1 (by omega) (by omega) ?_ | with_reducible refine wmulN (by omega) ?_ | with_reducible refine wquoN (by omega) (by omega) ?_ | with_reducible refine wremN (by omega) ?_ | with_reducible refine wshl (by omega) ?_ | with_reducible refine wshr (by omega) ?_ | with_reducible refine wand (by omega) (by omega) ?_ | with_reducible refine wor (by omega) (by omega) ?_ | with_reducible refine wandNot (by omega) (by omega) ?_ | with_reducible refine wlssT (by omega) ?_ | with_reducible refine wlssF (by omega) ?_ | with_reducible refine wleqT (by omega) ?_ | with_reducible refine wleqF (by omega) ?_ | with_reducible refine wgtrT (by omega) ?_ | with_reducible refine wgtrF (by omega) ?_ | with_reducible refine wgeqT (by omega) ?_ | with_reducible refine wgeqF (by omega) ?_ | with_reducible refine weqlT (by omega) ?_ | with_reducible refine weqlF (by omega) ?_ | with_reducible refine wneqT (by omega) ?_ | with_reducible refine wneqF (by omega) ?_ | with_reducible refine wadd (by omega) ?_ | with_reducible refine wsub (by omega) ?_ | with_reducible refine wresO (by assumption) ?_ | rw [kLoop_exit] | rw [kLoop_ret] | rw [impl_gapAcross.K0_ret] | rw [impl_gapAcross.top_sr_10] | dsimp only)
        refine W.ret ⟨?_, k2.trans (k3.mono k2.1)⟩
        have hnone : ∀ i, ¬ Hits (masksN R C) own free edge last i := fun i ⟨j, hj, hc⟩ => hnh ⟨j, hj, by
          refine hits_closed (fun x hx => ?_) i j hc
          rw [e, Nat.or_zero] at hnb
          generalize hk : k + 1 = k' at hx
          induction hx with
          | ownEdge h ho => exact .ownEdge h ho
          | freeEdge h hf => exact (hg _).1 ((hnb _).2 (.inr (.inl ⟨h, hf⟩)))
          | ownStep _ ha ho ih => exact .ownStep (ih hk) ha ho
          | @freeStep k0 i j h0 ha hf _ =>
            obtain rfl : k = k0 := by omega
            exact (hg _).1 ((hnb _).2 (.inr (.inr ⟨i, h0, ha, hf⟩)))⟩
        rcases hspec with ⟨i, _, hi⟩ | ⟨he, _⟩
        · exact absurd hi.1 (hnone i)
        · rw [he]
      · have hor : X ||| w' < 2 ^ 9 := Nat.or_lt_two_pow hX hml
        obtain ⟨h4, e4, k4⟩ := grown_W g lf hB hor ho n (by omega) hlf (t2.keep k3)
        have hst : growN (masksN R C) ((X ||| w') ||| own) (X ||| w') = growN (masksN R C) (own ||| (X ||| w')) ((X ||| w') ||| (edge &&& own)) := by
          rw [Nat.or_comm (X ||| w') own]
          congr 1
          apply Nat.eq_of_testBit_eq
          intro j
          rw [Nat.testBit_or (X ||| w') (edge &&& own), Nat.testBit_and]
          cases h1 : edge.testBit j <;> cases h2 : own.testBit j <;> simp
          rw [(hg j).2 (.ownEdge h1 h2)]
          exact .inl rfl
        have hle : X < X ||| w' := by
          have h1 : X ≤ X ||| w' := Nat.left_le_or
          rcases Nat.lt_or_ge X (X ||| w') with h2 | h2
          · exact h2
          · obtain ⟨j, hj⟩ := bit_of_ne e
            have h3 := hdis j hj
            rw [show X = X ||| w' by omega, Nat.testBit_or, hj, Bool.or_true] at h3; cases h3
        have hle2 : X ||| w' ≤ growN (masksN R C) ((X ||| w') ||| own) (X ||| w') := sub_le fun j hj => (grow_bit (Nat.or_lt_two_pow hor ho) j).2 (.start hj (by rw [Nat.testBit_or, hj, Bool.true_or]))
        have hgl := grow_lt (M := masksN R C) (fr := X ||| w') (Nat.or_lt_two_pow hor ho)
        repeat (first | with_reducible refine wT ?_ | with_reducible refine wF ?_ | with_reducible refine wg1 rfl ?_ | with_reducible refine wg0 rfl ?_ | with_reducible refine wgu ?_ | with_reducible refine wpT ?_ | with_reducible refine wpF ?_ | with_reducible refine wnT ?_ | with_reducible refine wnF ?_ | with_reducible refine wpv ?_ | with_reducible refine wsm ?_ | with_reducible refine wrI ?_ | with_reducible refine wrB ?_ | with_reducible refine wrN ?_ | with_reducible refine wrS ?_ | with_reducible refine wrP ?_ | with_reducible refine wx0 ?_ | with_reducible refine wx1 ?_ | with_reducible refine wx2 ?_ | with_reducible refine wptr ?_ | with_reducible refine wck plain_int ?_ | with_reducible refine wbd (by assumption) ?_ | with_reducible refine wlen (by assumption) ?_ | with_reducible refine wlen (OwnSl.int (by assumption)) ?_ | with_reducible refine wlen (Fix.now (by assumption)) ?_ | with_reducible refine wadd1 (by omega) ?_ | with_reducible refine waddN (by omega) ?_ | with_reducible refine wsub1 (by omega) (by omega) ?_ | with_reducible refine wmulN (by omega) ?_ | with_reducible refine wquoN (by omega) (by omega) ?_ | with_reducible refine wremN (by omega) ?_ | with_reducible refine wshl (by omega) ?_ | with_reducible refine wshr (by omega) ?_ | with_reducible refine wand (by omega) (by omega) ?_ | with_reducible refine wor (by omega) (by omega) ?_ | with_reducible refine wandNot (by omega) (by omega) ?_ | with_reducible refine wlssT (by omega) ?_ | with_reducible refine wlssF (by omega) ?_ | with_reducible refine wleqT (by omega) ?_ | with_reducible refine wleqF (by omega) ?_ | with_reducible refine wgtrT (by omega) ?_ | with_reducible refine wgtrF (by omega) ?_ | with_reducible refine wgeqT (by omega) ?_ | with_reducible refine wgeqF (by omega) ?_ | with_reducible refine weqlT (by omega) ?_ | with_reducible refine weqlF (by omega) ?_ | with_reducible refine wneqT (by omega) ?_ | with_reducible refine wneqF (by omega) ?_ | with_reducible refine wadd (by omega) ?_ | with_reducible refine wsub (by omega) ?_ | with_reducible refine wresO (by assumption) ?_ | rw [kLoop_exit] | rw [kLoop_ret] | dsimp only)
        refine next _ _ ?_ ⟨_, k + 1, h4, rfl, (k2.trans (k3.mono k2.1)).trans (k4.mono (Nat.le_trans k2.1 k3.1)), (t2.keep k3).keep k4, hgl, by omega, fun j => by rw [hst]; exact hws j, fun i hi => ?_, rfl⟩
        · omega
        · rcases Nat.lt_or_ge i k with h | h
          · exact hno i h
          · obtain rfl : i = k := by omega
            exact hnh
    · have hal : X &&& last < 2 ^ 9 := Nat.and_lt_two_pow _ s2
      repeat (first | with_reducible refine wT ?_ | with_reducible refine wF ?_ | with_reducible refine wg1 rfl ?_ | with_reducible refine wg0 rfl ?_ | with_reducible refine wgu ?_ | with_reducible refine wpT ?_ | with_reducible refine wpF ?_ | with_reducible refine wnT ?_ | with_reducible refine wnF ?_ | with_reducible refine wpv ?_ | with_reducible refine wsm ?_ | with_reducible refine wrI ?_ | with_reducible refine wrB ?_ | with_reducible refine wrN ?_ | with_reducible refine wrS ?_ | with_reducible refine wrP ?_ | with_reducible refine wx0 ?_ | with_reducible refine wx1 ?_ | with_reducible refine wx2 ?_ | with_reducible refine wptr ?_ | with_reducible refine wck plain_int ?_ | with_reducible refine wbd (by assumption) ?_ | with_reducible refine wlen (by assumption) ?_ | with_reducible refine wlen (OwnSl.int (by assumption)) ?_ | with_reducible refine wlen (Fix.now (by assumption)) ?_ | with_reducible refine wadd1 (by omega) ?_ | with_reducible refine waddN (by omega) ?_ | with_reducible refine wsub1 (by omega) (by omega) ?_ | with_reducible refine wmulN (by omega) ?_ | with_reducible refine wquoN (by omega) (by omega) ?_ | with_reducible refine wremN (by omega) ?_ | with_reducible refine wshl (by omega) ?_ | with_reducible refine wshr (by omega) ?_ | with_reducible refine wand (by omega) (by omega) ?_ | with_reducible refine wor (by omega) (by omega) ?_ | with_reducible refine wandNot (by omega) (by omega) ?_ | with_reducible refine wlssT (by omega) ?_ | with_reducible refine wlssF (by omega) ?_ | with_reducible refine wleqT (by omega) ?_ | with_reducible refine wleqF (by omega) ?_ | with_reducible refine wgtrT (by omega) ?_ | with_reducible refine wgtrF (by omega) ?_ | with_reducible refine wgeqT (by omega) ?_ | with_reducible refine wgeqF (by omega) ?_ | with_reducible refine weqlT (by omega) ?_ | with_reducible refine weqlF (by omega) ?_ | with_reducible refine wneqT (by omega) ?_ | with_reducible refine wneqF (by omega) ?_ | with_reducible refine wadd (by omega) ?_ | with_reducible refine wsub (by omega) ?_ | with_reducible refine wresO (by assumption) ?_ | rw [kLoop_exit] | rw [kLoop_ret] | rw [impl_gapAcross.K0_ret] | rw [impl_gapAcross.top_sr_10] | dsimp only)
      refine W.ret ⟨?_, k2⟩
      have hi : IsGap (masksN R C) own free edge last k := ⟨by
        apply Classical.byContradiction
        intro hh
        exact hl (and_zero.2 fun j h1 h2 => hh ⟨j, h2, (hg j).1 h1⟩), hno⟩
      rcases hspec with ⟨i, he, hi2⟩ | ⟨_, hn⟩
      · rw [he, hi.unique hi2]
      · exact absurd hi.1 (hn k)
  obtain ⟨_, h', e, rfl, k⟩ := this
  exact ⟨h', e, k⟩

end Go.Proofs.YtiflfnlpkhghpaaDoor
