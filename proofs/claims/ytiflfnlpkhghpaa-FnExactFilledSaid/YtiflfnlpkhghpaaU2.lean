/- The program's chapter 2: Joins, GapOf, GroupOf, Filled and GapCells compute what the model's do. -/
import Derived.Test.YtiflfnlpkhghpaaU1
namespace Go.Proofs.Ytiflfnlpkhghpaa
open Go Go.Ip G

variable (g : Nat → PV) (lf n : Nat)

theorem filledOk (hlf : 1000 < lf) : FilledOk g lf := by
  intro N hN r c pl xs p h ht hp hl hf
  obtain ⟨n, rfl⟩ : ∃ n, N = n + 1 := ⟨N - 1, by omega⟩
  have hpos := positionOk_N g lf n (by omega) r c hp (by omega) hf
  have hplay := playerOk_W g lf n (by omega) h pl
  suffices this : W (CL g lf (n + 1) fn_impl_Filled [.int .i64 r, .int .i64 c, p, .int .i64 pl] h) fun q h' => OwnSl h.length h' q (filledL r c xs pl) ∧ Keep h.length h h' by
    obtain ⟨q, h', e, o, k⟩ := this
    exact ⟨q, h', e, o, k⟩
  rw [impl_Filled.call_eq]
  unfold impl_Filled.main
  simp only [env_C, env_lf, env_pick, env_un, env_make, env_len]
  unfold filledL
  cases hb : posB r c xs with
  | false =>
    rw [hb] at hpos
    repeat (first | with_reducible refine wT ?_ | with_reducible refine wF ?_ | with_reducible refine wg1 rfl ?_ | with_reducible refine wg0 rfl ?_ | with_reducible refine wgu ?_ | with_reducible refine wpT ?_ | with_reducible refine wpF ?_ | with_reducible refine wnT ?_ | with_reducible refine wnF ?_ | with_reducible refine wpv ?_ | with_reducible refine wsm ?_ | with_reducible refine wrI ?_ | with_reducible refine wrB ?_ | with_reducible refine wrN ?_ | with_reducible refine wrS ?_ | with_reducible refine wrP ?_ | with_reducible refine wx0 ?_ | with_reducible refine wx1 ?_ | with_reducible refine wx2 ?_ | with_reducible refine wptr ?_ | with_reducible refine wck plain_int ?_ | with_reducible refine wbd (by assumption) ?_ | with_reducible refine wlen (by assumption) ?_ | with_reducible refine wlen (OwnSl.int (by assumption)) ?_ | with_reducible refine wlen (Fix.now (by assumption)) ?_ | with_reducible refine wadd1 (by omega) ?_ | with_reducible refine waddN (by omega) ?_ | with_reducible refine wsub1 (by omega) (by omega) ?_ | with_reducible refine wmulN (by omega) ?_ | with_reducible refine wquoN (by omega) (by omega) ?_ | with_reducible refine wremN (by omega) ?_ | with_reducible refine wshl (by omega) ?_ | with_reducible refine wshr (by omega) ?_ | with_reducible refine wand (by omega) (by omega) ?_ | with_reducible refine wor (by omega) (by omega) ?_ | with_reducible refine wandNot (by omega) (by omega) ?_ | with_reducible refine wlssT (by omega) ?_ | with_reducible refine wlssF (by omega) ?_ | with_reducible refine wleqT (by omega) ?_ | with_reducible refine wleqF (by omega) ?_ | with_reducible refine wgtrT (by omega) ?_ | with_reducible refine wgtrF (by omega) ?_ | with_reducible refine wgeqT (by omega) ?_ | with_reducible refine wgeqF (by omega) ?_ | with_reducible refine weqlT (by omega) ?_ | with_reducible refine weqlF (by omega) ?_ | with_reducible refine wneqT (by omega) ?_ | with_reducible refine wneqF (by omega) ?_ | with_reducible refine wadd (by omega) ?_ | with_reducible refine wsub (by omega) ?_ | with_reducible refine wresO (by assumption) ?_ | rw [kLoop_exit] | rw [kLoop_ret] | dsimp only)
    exact W.ret ⟨OwnSl.nil _ _, Keep.refl _ _⟩
  | true =>
    rw [hb] at hpos
    cases hpl : playerB pl with
    | false =>
      rw [hpl] at hplay
      repeat (first | with_reducible refine wT ?_ | with_reducible refine wF ?_ | with_reducible refine wg1 rfl ?_ | with_reducible refine wg0 rfl ?_ | with_reducible refine wgu ?_ | with_reducible refine wpT ?_ | with_reducible refine wpF ?_ | with_reducible refine wnT ?_ | with_reducible refine wnF ?_ | with_reducible refine wpv ?_ | with_reducible refine wsm ?_ | with_reducible refine wrI ?_ | with_reducible refine wrB ?_ | with_reducible refine wrN ?_ | with_reducible refine wrS ?_ | with_reducible refine wrP ?_ | with_reducible refine wx0 ?_ | with_reducible refine wx1 ?_ | with_reducible refine wx2 ?_ | with_reducible refine wptr ?_ | with_reducible refine wck plain_int ?_ | with_reducible refine wbd (by assumption) ?_ | with_reducible refine wlen (by assumption) ?_ | with_reducible refine wlen (OwnSl.int (by assumption)) ?_ | with_reducible refine wlen (Fix.now (by assumption)) ?_ | with_reducible refine wadd1 (by omega) ?_ | with_reducible refine waddN (by omega) ?_ | with_reducible refine wsub1 (by omega) (by omega) ?_ | with_reducible refine wmulN (by omega) ?_ | with_reducible refine wquoN (by omega) (by omega) ?_ | with_reducible refine wremN (by omega) ?_ | with_reducible refine wshl (by omega) ?_ | with_reducible refine wshr (by omega) ?_ | with_reducible refine wand (by omega) (by omega) ?_ | with_reducible refine wor (by omega) (by omega) ?_ | with_reducible refine wandNot (by omega) (by omega) ?_ | with_reducible refine wlssT (by omega) ?_ | with_reducible refine wlssF (by omega) ?_ | with_reducible refine wleqT (by omega) ?_ | with_reducible refine wleqF (by omega) ?_ | with_reducible refine wgtrT (by omega) ?_ | with_reducible refine wgtrF (by omega) ?_ | with_reducible refine wgeqT (by omega) ?_ | with_reducible refine wgeqF (by omega) ?_ | with_reducible refine weqlT (by omega) ?_ | with_reducible refine weqlF (by omega) ?_ | with_reducible refine wneqT (by omega) ?_ | with_reducible refine wneqF (by omega) ?_ | with_reducible refine wadd (by omega) ?_ | with_reducible refine wsub (by omega) ?_ | with_reducible refine wresO (by assumption) ?_ | rw [kLoop_exit] | rw [kLoop_ret] | dsimp only)
      exact W.ret ⟨OwnSl.nil _ _, Keep.refl _ _⟩
    | true =>
      rw [hpl] at hplay
      rw [Bool.and_self, if_pos rfl]
      repeat (first | with_reducible refine wT ?_ | with_reducible refine wF ?_ | with_reducible refine wg1 rfl ?_ | with_reducible refine wg0 rfl ?_ | with_reducible refine wgu ?_ | with_reducible refine wpT ?_ | with_reducible refine wpF ?_ | with_reducible refine wnT ?_ | with_reducible refine wnF ?_ | with_reducible refine wpv ?_ | with_reducible refine wsm ?_ | with_reducible refine wrI ?_ | with_reducible refine wrB ?_ | with_reducible refine wrN ?_ | with_reducible refine wrS ?_ | with_reducible refine wrP ?_ | with_reducible refine wx0 ?_ | with_reducible refine wx1 ?_ | with_reducible refine wx2 ?_ | with_reducible refine wptr ?_ | with_reducible refine wck plain_int ?_ | with_reducible refine wbd (by assumption) ?_ | with_reducible refine wlen (by assumption) ?_ | with_reducible refine wlen (OwnSl.int (by assumption)) ?_ | with_reducible refine wlen (Fix.now (by assumption)) ?_ | (refine wmake (by omega) fun q h1 o1 k1 => ?_) | with_reducible refine wadd1 (by omega) ?_ | with_reducible refine waddN (by omega) ?_ | with_reducible refine wsub1 (by omega) (by omega) ?_ | with_reducible refine wmulN (by omega) ?_ | with_reducible refine wquoN (by omega) (by omega) ?_ | with_reducible refine wremN (by omega) ?_ | with_reducible refine wshl (by omega) ?_ | with_reducible refine wshr (by omega) ?_ | with_reducible refine wand (by omega) (by omega) ?_ | with_reducible refine wor (by omega) (by omega) ?_ | with_reducible refine wandNot (by omega) (by omega) ?_ | with_reducible refine wlssT (by omega) ?_ | with_reducible refine wlssF (by omega) ?_ | with_reducible refine wleqT (by omega) ?_ | with_reducible refine wleqF (by omega) ?_ | with_reducible refine wgtrT (by omega) ?_ | with_reducible refine wgtrF (by omega) ?_ | with_reducible refine wgeqT (by omega) ?_ | with_reducible refine wgeqF (by omega) ?_ | with_reducible refine weqlT (by omega) ?_ | with_reducible refine weqlF (by omega) ?_ | with_reducible refine wneqT (by omega) ?_ | with_reducible refine wneqF (by omega) ?_ | with_reducible refine wadd (by omega) ?_ | with_reducible refine wsub (by omega) ?_ | with_reducible refine wresO (by assumption) ?_ | rw [kLoop_exit] | rw [kLoop_ret] | dsimp only)
      refine loopW (fun m s => ∃ (i : Nat) (ys : List Int) (h2 : PHeap), s = impl_Filled.st0 (.int .i64 pl) q p (.int .i64 (xs.length : Int)) (.int .i64 (i : Int)) h2 ∧ i + m = xs.length ∧ ys = (xs.take i).map (fillL pl) ++ List.replicate m 0 ∧ OwnSl h.length h2 q ys ∧ Keep h.length h h2) ?_ lf xs.length _ (by omega) ⟨0, _, h1, rfl, by omega, by simp, o1, k1⟩
      rintro n1 m s ⟨i, ys, h2, rfl, him, hy, o2, k2⟩ next
      have hp2 := hp.keep k2
      rw [impl_Filled.body0_eq]
      unfold impl_Filled.body0
      simp only [env_load, env_store, env_bin, env_indexAddr]
      cases m with
      | zero =>
        repeat (first | with_reducible refine wT ?_ | with_reducible refine wF ?_ | with_reducible refine wg1 rfl ?_ | with_reducible refine wg0 rfl ?_ | with_reducible refine wgu ?_ | with_reducible refine wpT ?_ | with_reducible refine wpF ?_ | with_reducible refine wnT ?_ | with_reducible refine wnF ?_ | with_reducible refine wpv ?_ | with_reducible refine wsm ?_ | with_reducible refine wrI ?_ | with_reducible refine wrB ?_ | with_reducible refine wrN ?_ | with_reducible refine wrS ?_ | with_reducible refine wrP ?_ | with_reducible refine wx0 ?_ | with_reducible refine wx1 ?_ | with_reducible refine wx2 ?_ | with_reducible refine wptr ?_ | with_reducible refine wck plain_int ?_ | with_reducible refine wbd (by assumption) ?_ | with_reducible refine wlen (by assumption) ?_ | with_reducible refine wlen (OwnSl.int (by assumption)) ?_ | with_reducible refine wlen (Fix.now (by assumption)) ?_ | with_reducible refine wadd1 (by omega) ?_ | with_reducible refine waddN (by omega) ?_ | with_reducible refine wsub1 (by omega) (by omega) ?_ | with_reducible refine wmulN (by omega) ?_ | with_reducible refine wquoN (by omega) (by omega) ?_ | with_reducible refine wremN (by omega) ?_ | with_reducible refine wshl (by omega) ?_ | with_reducible refine wshr (by omega) ?_ | with_reducible refine wand (by omega) (by omega) ?_ | with_reducible refine wor (by omega) (by omega) ?_ | with_reducible refine wandNot (by omega) (by omega) ?_ | with_reducible refine wlssT (by omega) ?_ | with_reducible refine wlssF (by omega) ?_ | with_reducible refine wleqT (by omega) ?_ | with_reducible refine wleqF (by omega) ?_ | with_reducible refine wgtrT (by omega) ?_ | with_reducible refine wgtrF (by omega) ?_ | with_reducible refine wgeqT (by omega) ?_ | with_reducible refine wgeqF (by omega) ?_ | with_reducible refine weqlT (by omega) ?_ | with_reducible refine weqlF (by omega) ?_ | with_reducible refine wneqT (by omega) ?_ | with_reducible refine wneqF (by omega) ?_ | with_reducible refine wadd (by omega) ?_ | with_reducible refine wsub (by omega) ?_ | with_reducible refine wresO (by assumption) ?_ | rw [kLoop_exit] | rw [kLoop_ret] | rw [impl_Filled.K0_ret] | rw [impl_Filled.after0_se0_3_9_25_26_27_28] | dsimp only)
        refine W.ret ⟨?_, k2⟩
        rw [List.replicate_zero, List.append_nil, List.take_of_length_le (by omega)] at hy
        exact hy ▸ o2
      | succ m =>
        have hi : i < xs.length := by omega
        have hyl : ys.length = xs.length := by rw [hy]; simp; omega
        have hset : ∀ x, fillL pl xs[i] = x → ys.set i x = (xs.take (i + 1)).map (fillL pl) ++ List.replicate m 0 := fun x hx => by
          have hmin : min i xs.length = i := by omega
          rw [hy, List.set_append_right _ _ (by simp; omega), List.replicate_succ, List.length_map, List.length_take, hmin, Nat.sub_self, List.set_cons_zero, List.take_add_one, List.getElem?_eq_getElem hi, List.map_append, List.append_assoc, ← hx]
          rfl
        repeat (first | with_reducible refine wT ?_ | with_reducible refine wF ?_ | with_reducible refine wg1 rfl ?_ | with_reducible refine wg0 rfl ?_ | with_reducible refine wgu ?_ | with_reducible refine wpT ?_ | with_reducible refine wpF ?_ | with_reducible refine wnT ?_ | with_reducible refine wnF ?_ | with_reducible refine wpv ?_ | with_reducible refine wsm ?_ | with_reducible refine wrI ?_ | with_reducible refine wrB ?_ | with_reducible refine wrN ?_ | with_reducible refine wrS ?_ | with_reducible refine wrP ?_ | with_reducible refine wx0 ?_ | with_reducible refine wx1 ?_ | with_reducible refine wx2 ?_ | with_reducible refine wptr ?_ | with_reducible refine wck plain_int ?_ | with_reducible refine wbd (by assumption) ?_ | with_reducible refine wlen (by assumption) ?_ | with_reducible refine wlen (OwnSl.int (by assumption)) ?_ | with_reducible refine wlen (Fix.now (by assumption)) ?_ | (with_reducible refine wat hp2 hi fun a hl => ?_) | with_reducible refine wadd1 (by omega) ?_ | with_reducible refine waddN (by omega) ?_ | with_reducible refine wsub1 (by omega) (by omega) ?_ | with_reducible refine wmulN (by omega) ?_ | with_reducible refine wquoN (by omega) (by omega) ?_ | with_reducible refine wremN (by omega) ?_ | with_reducible refine wshl (by omega) ?_ | with_reducible refine wshr (by omega) ?_ | with_reducible refine wand (by omega) (by omega) ?_ | with_reducible refine wor (by omega) (by omega) ?_ | with_reducible refine wandNot (by omega) (by omega) ?_ | with_reducible refine wlssT (by omega) ?_ | with_reducible refine wlssF (by omega) ?_ | with_reducible refine wleqT (by omega) ?_ | with_reducible refine wleqF (by omega) ?_ | with_reducible refine wgtrT (by omega) ?_ | with_reducible refine wgtrF (by omega) ?_ | with_reducible refine wgeqT (by omega) ?_ | with_reducible refine wgeqF (by omega) ?_ | with_reducible refine weqlT (by omega) ?_ | with_reducible refine weqlF (by omega) ?_ | with_reducible refine wneqT (by omega) ?_ | with_reducible refine wneqF (by omega) ?_ | with_reducible refine wadd (by omega) ?_ | with_reducible refine wsub (by omega) ?_ | with_reducible refine wresO (by assumption) ?_ | rw [kLoop_exit] | rw [kLoop_ret] | dsimp only)
        refine weql (fun e => ?_) (fun e => ?_)
        · repeat (first | with_reducible refine wT ?_ | with_reducible refine wF ?_ | with_reducible refine wg1 rfl ?_ | with_reducible refine wg0 rfl ?_ | with_reducible refine wgu ?_ | with_reducible refine wpT ?_ | with_reducible refine wpF ?_ | with_reducible refine wnT ?_ | with_reducible refine wnF ?_ | with_reducible refine wpv ?_ | with_reducible refine wsm ?_ | with_reducible refine wrI ?_ | with_reducible refine wrB ?_ | with_reducible refine wrN ?_ | with_reducible refine wrS ?_ | with_reducible refine wrP ?_ | with_reducible refine wx0 ?_ | with_reducible refine wx1 ?_ | with_reducible refine wx2 ?_ | with_reducible refine wptr ?_ | with_reducible refine wck plain_int ?_ | with_reducible refine wbd (by assumption) ?_ | with_reducible refine wlen (by assumption) ?_ | with_reducible refine wlen (OwnSl.int (by assumption)) ?_ | with_reducible refine wlen (Fix.now (by assumption)) ?_ | (refine wst o2 (show i < ys.length by omega) fun h3 o3 k3 l3 a e3 => ?_) | with_reducible refine wadd1 (by omega) ?_ | with_reducible refine waddN (by omega) ?_ | with_reducible refine wsub1 (by omega) (by omega) ?_ | with_reducible refine wmulN (by omega) ?_ | with_reducible refine wquoN (by omega) (by omega) ?_ | with_reducible refine wremN (by omega) ?_ | with_reducible refine wshl (by omega) ?_ | with_reducible refine wshr (by omega) ?_ | with_reducible refine wand (by omega) (by omega) ?_ | with_reducible refine wor (by omega) (by omega) ?_ | with_reducible refine wandNot (by omega) (by omega) ?_ | with_reducible refine wlssT (by omega) ?_ | with_reducible refine wlssF (by omega) ?_ | with_reducible refine wleqT (by omega) ?_ | with_reducible refine wleqF (by omega) ?_ | with_reducible refine wgtrT (by omega) ?_ | with_reducible refine wgtrF (by omega) ?_ | with_reducible refine wgeqT (by omega) ?_ | with_reducible refine wgeqF (by omega) ?_ | with_reducible refine weqlT (by omega) ?_ | with_reducible refine weqlF (by omega) ?_ | with_reducible refine wneqT (by omega) ?_ | with_reducible refine wneqF (by omega) ?_ | with_reducible refine wadd (by omega) ?_ | with_reducible refine wsub (by omega) ?_ | with_reducible refine wresO (by assumption) ?_ | rw [kLoop_exit] | rw [kLoop_ret] | dsimp only)
          exact next _ _ (Nat.lt_succ_self m) ⟨i + 1, _, h3, rfl, by omega, hset pl (by unfold fillL; rw [if_pos e]), o3, k2.trans k3⟩
        · repeat (first | with_reducible refine wT ?_ | with_reducible refine wF ?_ | with_reducible refine wg1 rfl ?_ | with_reducible refine wg0 rfl ?_ | with_reducible refine wgu ?_ | with_reducible refine wpT ?_ | with_reducible refine wpF ?_ | with_reducible refine wnT ?_ | with_reducible refine wnF ?_ | with_reducible refine wpv ?_ | with_reducible refine wsm ?_ | with_reducible refine wrI ?_ | with_reducible refine wrB ?_ | with_reducible refine wrN ?_ | with_reducible refine wrS ?_ | with_reducible refine wrP ?_ | with_reducible refine wx0 ?_ | with_reducible refine wx1 ?_ | with_reducible refine wx2 ?_ | with_reducible refine wptr ?_ | with_reducible refine wck plain_int ?_ | with_reducible refine wbd (by assumption) ?_ | with_reducible refine wlen (by assumption) ?_ | with_reducible refine wlen (OwnSl.int (by assumption)) ?_ | with_reducible refine wlen (Fix.now (by assumption)) ?_ | (refine wst o2 (show i < ys.length by omega) fun h3 o3 k3 l3 a e3 => ?_) | with_reducible refine wadd1 (by omega) ?_ | with_reducible refine waddN (by omega) ?_ | with_reducible refine wsub1 (by omega) (by omega) ?_ | with_reducible refine wmulN (by omega) ?_ | with_reducible refine wquoN (by omega) (by omega) ?_ | with_reducible refine wremN (by omega) ?_ | with_reducible refine wshl (by omega) ?_ | with_reducible refine wshr (by omega) ?_ | with_reducible refine wand (by omega) (by omega) ?_ | with_reducible refine wor (by omega) (by omega) ?_ | with_reducible refine wandNot (by omega) (by omega) ?_ | with_reducible refine wlssT (by omega) ?_ | with_reducible refine wlssF (by omega) ?_ | with_reducible refine wleqT (by omega) ?_ | with_reducible refine wleqF (by omega) ?_ | with_reducible refine wgtrT (by omega) ?_ | with_reducible refine wgtrF (by omega) ?_ | with_reducible refine wgeqT (by omega) ?_ | with_reducible refine wgeqF (by omega) ?_ | with_reducible refine weqlT (by omega) ?_ | with_reducible refine weqlF (by omega) ?_ | with_reducible refine wneqT (by omega) ?_ | with_reducible refine wneqF (by omega) ?_ | with_reducible refine wadd (by omega) ?_ | with_reducible refine wsub (by omega) ?_ | with_reducible refine wresO (by assumption) ?_ | rw [kLoop_exit] | rw [kLoop_ret] | dsimp only)
          exact next _ _ (Nat.lt_succ_self m) ⟨i + 1, _, h3, rfl, by omega, hset xs[i] (by unfold fillL; rw [if_neg e]), o3, k2.trans k3⟩

/-- The cells that close a gap, out of the list of the free cells. -/
theorem gapCells_list {R C P : Nat} {xs : List Int} (hb : posB (R : Int) (C : Int) xs = true) (hS : Sides (R : Int) (C : Int) R C xs) (hP : P = 1 ∨ P = 2) {G : Nat} (hG : gapL (R : Int) (C : Int) xs (P : Int) = (G : Int)) (h0 : 0 < G) :
    gapCellsL (R : Int) (C : Int) xs (P : Int) = (listN (setL xs 0)).filter fun k => decide (gapN (masksN R C) (setL xs (P : Int) ||| (1 <<< k.toNat)) (without (setL xs 0) k.toNat) (sideN R C P false) (sideN R C P true) (R * C) < (G : Int)) := by
  have hpos : 0 < gapL (R : Int) (C : Int) xs (P : Int) := by rw [hG]; omega
  have hgn := gapL_eq hb hP
  have hIs : IsGap (masksN R C) (setL xs (P : Int)) (setL xs 0) (sideN R C P false) (sideN R C P true) G := by
    rcases gap_spec (P := P) hS with ⟨k, h1, h2⟩ | ⟨h1, _⟩
    · have : k = G := by rw [← hgn, hG] at h1; omega
      exact this ▸ h2
    · rw [← hgn, hG] at h1; omega
  unfold gapCellsL
  rw [if_pos hpos, listN_filter, List.filter_map, List.filter_filter]
  congr 1
  have hx9 : xs.length ≤ 9 := by have := hS.2.2.2.2.2.2.2.1; have := hS.2.2.2.2.2.2.1; omega
  have h9 : List.range 9 = List.range xs.length ++ (List.range' xs.length (9 - xs.length)) := by
    rw [List.range_eq_range', List.range_eq_range', show 9 = xs.length + (9 - xs.length) by omega, ← List.range'_append_1]; simp
  rw [h9, List.filter_append]
  have hnil : (List.range' xs.length (9 - xs.length)).filter (fun k => ((fun k : Int => decide (gapN (masksN R C) (setL xs (P : Int) ||| (1 <<< k.toNat)) (without (setL xs 0) k.toNat) (sideN R C P false) (sideN R C P true) (R * C) < (G : Int))) ∘ fun k : Nat => (k : Int)) k && (setL xs 0).testBit k) = [] := by
    rw [List.filter_eq_nil_iff]
    intro k hk
    rw [List.mem_range'_1] at hk
    have : (setL xs 0).testBit k = false := by
      cases e : (setL xs 0).testBit k with
      | false => rfl
      | true => have := set_in hS e; have := hS.2.2.2.2.2.2.2.1; omega
    simp [this]
  rw [hnil, List.append_nil]
  apply List.filter_congr
  intro k hk
  rw [List.mem_range] at hk
  have hgd : xs.getD k 0 = xs[k] := by rw [List.getD_eq_getElem?_getD, List.getElem?_eq_getElem hk]; rfl
  have hbit : (setL xs 0).testBit k = decide (xs.getD k 0 = 0) := by
    rw [Bool.eq_iff_iff, setL_bit, decide_eq_true_iff, hgd, List.getElem?_eq_getElem hk, Option.some.injEq]
  rw [hbit, Bool.and_comm]
  cases hz : decide (xs.getD k 0 = 0) with
  | false => rw [Bool.and_false, Bool.and_false]
  | true =>
    have hk0 : xs[k]? = some 0 := by rw [List.getElem?_eq_getElem hk, ← hgd, of_decide_eq_true hz]
    obtain ⟨m1, m2, m3⟩ := set_more hS hP hk0
    have hgs := gapL_eq (pos_set hb hP k) hP
    rw [Bool.and_true, Bool.and_true, hgs, hG]
    rw [m1, m2]
    have hst := gap_stone hS hP hk0 hIs
    rw [m1, m2] at hst
    show decide _ = decide (gapN (masksN R C) (setL xs (P : Int) ||| (1 <<< k)) (without (setL xs 0) k) (sideN R C P false) (sideN R C P true) (R * C) < (G : Int))
    apply decide_eq_decide.2
    rcases hst with h | ⟨_, h⟩ <;> rw [h] <;> omega

end Go.Proofs.Ytiflfnlpkhghpaa
