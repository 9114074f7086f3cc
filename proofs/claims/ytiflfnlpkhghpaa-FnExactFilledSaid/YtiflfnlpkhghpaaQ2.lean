/- Promises 11, 12, 13 and 14 over what the program's functions are asked to compute. -/
import Derived.Test.YtiflfnlpkhghpaaQ1
namespace Go.Proofs.Ytiflfnlpkhghpaa
open Go Go.Ip G

/-! ### more facts on positions -/
theorem range_count (w : Int) : ∀ (xs : List Int) (n : Nat), xs.length ≤ n → (List.range n).countP (fun j => decide (xs[j]? = some w)) = xs.count w
  | [], n, _ => by
    rw [List.count_nil, List.countP_eq_zero]
    intro j _; simp
  | x :: xs, n, h => by
    obtain ⟨m, rfl⟩ : ∃ m, n = m + 1 := ⟨n - 1, by simp at h; omega⟩
    rw [List.range_succ_eq_map, List.countP_cons, List.countP_map, List.count_cons]
    have ih := range_count w xs m (by simpa using h)
    have : ((fun j => decide ((x :: xs)[j]? = some w)) ∘ Nat.succ) = fun j => decide (xs[j]? = some w) := by
      funext j; simp
    rw [this, ih]
    congr 1
    by_cases e : x = w <;> simp [e]

theorem pop_count {xs : List Int} (h : xs.length ≤ 9) (w : Int) : pop (setL xs w) = xs.count w := by
  rw [← range_count w xs 9 h]
  unfold pop
  apply List.countP_congr
  intro j _
  rw [setL_bit, decide_eq_true_iff]

theorem gap_le_free {R C P : Nat} {r c : Int} {xs : List Int} (hs : Sides r c R C xs) : gapN (masksN R C) (setL xs (P : Int)) (setL xs 0) (sideN R C P false) (sideN R C P true) (R * C) ≤ (xs.count 0 : Int) := by
  have hl : xs.length ≤ 9 := by have := hs.2.2.2.2.2.2.2.1; have := hs.2.2.2.2.2.2.1; omega
  rcases gap_spec (P := P) hs with ⟨k, hk, hg⟩ | ⟨hk, _⟩
  · have := gap_pop (set_lt9 hs 0) hg
    rw [pop_count hl] at this
    rw [hk]; omega
  · rw [hk]; omega

theorem gap_joins {R C P : Nat} {xs : List Int} (hb : posB (R : Int) (C : Int) xs = true) (hs : Sides (R : Int) (C : Int) R C xs) (hP : P = 1 ∨ P = 2) : decide (gapL (R : Int) (C : Int) xs (P : Int) = 0) = joinsL (R : Int) (C : Int) xs (P : Int) := by
  rw [gapL_eq hb hP, joinsL_eq hb hP, Bool.eq_iff_iff, decide_eq_true_iff]
  exact gap_zero_iff hs
theorem gap_other {R C P : Nat} {xs : List Int} (hb : posB (R : Int) (C : Int) xs = true) (hs : Sides (R : Int) (C : Int) R C xs) (hP : P = 1 ∨ P = 2) : decide (gapL (R : Int) (C : Int) xs (P : Int) = -1) = joinsL (R : Int) (C : Int) xs ((3 - P : Nat) : Int) := by
  rw [gapL_eq hb hP, joinsL_eq hb (by omega), Bool.eq_iff_iff, decide_eq_true_iff]
  exact gap_none_iff hs hP
theorem gap_filled {R C P : Nat} {xs : List Int} (hb : posB (R : Int) (C : Int) xs = true) (hs : Sides (R : Int) (C : Int) R C xs) (hP : P = 1 ∨ P = 2) : joinsL (R : Int) (C : Int) (xs.map (fillL (P : Int))) (P : Int) = decide (0 ≤ gapL (R : Int) (C : Int) xs (P : Int)) := by
  rw [joinsL_eq (filled_pos hb hP) hP, (filled_set hs hP).1, other_joins hs hP, ← joinsL_eq hb (show 3 - P = 1 ∨ 3 - P = 2 by omega), ← gap_other hb hs hP]
  have := (gapL_small (R : Int) (C : Int) xs (P : Int)).1
  rw [Bool.eq_iff_iff, Bool.not_eq_true', decide_eq_false_iff_not, decide_eq_true_iff]
  omega

theorem pos_set {R C P : Nat} {xs : List Int} (hb : posB (R : Int) (C : Int) xs = true) (hP : P = 1 ∨ P = 2) (k : Nat) : posB (R : Int) (C : Int) (xs.set k (P : Int)) = true := by
  unfold posB at hb ⊢
  rw [List.length_set]
  rw [Bool.and_eq_true] at hb ⊢
  refine ⟨hb.1, ?_⟩
  rw [List.all_eq_true]
  intro x hx
  rcases List.mem_or_eq_of_mem_set hx with hx | rfl
  · exact List.all_eq_true.1 hb.2 x hx
  · rcases hP with rfl | rfl <;> rfl

/-- With a stone more on a free cell. -/
theorem gapL_stone {R C P : Nat} {xs : List Int} (hb : posB (R : Int) (C : Int) xs = true) (hs : Sides (R : Int) (C : Int) R C xs) (hP : P = 1 ∨ P = 2) {k : Nat} (hk : xs[k]? = some 0) (h0 : 0 ≤ gapL (R : Int) (C : Int) xs (P : Int)) :
    gapL (R : Int) (C : Int) (xs.set k (P : Int)) (P : Int) = gapL (R : Int) (C : Int) xs (P : Int) ∨ (1 ≤ gapL (R : Int) (C : Int) xs (P : Int) ∧ gapL (R : Int) (C : Int) (xs.set k (P : Int)) (P : Int) = gapL (R : Int) (C : Int) xs (P : Int) - 1) := by
  rw [gapL_eq (pos_set hb hP k) hP, gapL_eq hb hP]
  rw [gapL_eq hb hP] at h0
  rcases gap_spec (P := P) hs with ⟨G, hG, hg⟩ | ⟨hG, _⟩
  · rw [hG]
    rcases gap_stone hs hP hk hg with h | ⟨h1, h⟩
    · exact .inl h
    · exact .inr ⟨by omega, h⟩
  · omega

theorem free_first {r c : Int} {xs : List Int} (hb : posB r c xs = true) {i : Nat} (hi : i < (cellsL r c xs 0).length) : ∃ j : Nat, (cellsL r c xs 0)[i] = (j : Int) ∧ xs[j]? = some 0 := by
  obtain ⟨e, he⟩ : ∃ e, e = (cellsL r c xs 0)[i] := ⟨_, rfl⟩
  have hm : e ∈ cellsL r c xs 0 := by rw [he]; exact List.getElem_mem hi
  have hc : cellsL r c xs 0 = cellsFrom 0 0 xs := by unfold cellsL; rw [hb]; rfl
  rw [hc] at hm
  obtain ⟨j, h1, h2⟩ := cellsFrom_mem 0 xs 0 _ hm
  exact ⟨j, by rw [← he, h1, Nat.zero_add], h2⟩

variable (g : Nat → PV) (lf n : Nat)

/-! ### promise 12 -/
end Go.Proofs.Ytiflfnlpkhghpaa
