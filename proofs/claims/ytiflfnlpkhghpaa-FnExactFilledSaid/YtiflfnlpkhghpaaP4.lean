/- Promise 4: each cell is of one kind. -/
import Derived.Test.YtiflfnlpkhghpaaP5
namespace Go.Proofs.Ytiflfnlpkhghpaa
open Go Go.Ip Go.RowKit G

variable (g : Nat → PV) (lf n : Nat)

/-! ### what is listed -/
theorem cellsFrom_mem (x : Int) : ∀ (ys : List Int) (i : Nat) (e : Int), e ∈ cellsFrom x i ys → ∃ j : Nat, e = ((i + j : Nat) : Int) ∧ ys[j]? = some x
  | [], _, _, h => by cases h
  | y :: ys, i, e, h => by
    rw [cellsFrom] at h
    by_cases hy : y = x
    · rw [if_pos hy, List.mem_cons] at h
      rcases h with rfl | h
      · exact ⟨0, rfl, by simp [hy]⟩
      · obtain ⟨j, he, hj⟩ := cellsFrom_mem x ys (i + 1) e h
        exact ⟨j + 1, by rw [he]; congr 1; omega, by simpa using hj⟩
    · rw [if_neg hy] at h
      obtain ⟨j, he, hj⟩ := cellsFrom_mem x ys (i + 1) e h
      exact ⟨j + 1, by rw [he]; congr 1; omega, by simpa using hj⟩

theorem cellsFrom_sorted (x : Int) : ∀ (ys : List Int) (i : Nat), (cellsFrom x i ys).Pairwise (· < ·)
  | [], _ => List.Pairwise.nil
  | y :: ys, i => by
    rw [cellsFrom]
    have ih := cellsFrom_sorted x ys (i + 1)
    by_cases hy : y = x
    · rw [if_pos hy, List.pairwise_cons]
      refine ⟨fun e he => ?_, ih⟩
      obtain ⟨j, he, _⟩ := cellsFrom_mem x ys (i + 1) e he
      omega
    · rw [if_neg hy]; exact ih

theorem cells_sum : ∀ (ys : List Int), ys.all contentB = true → ys.count 0 + ys.count 1 + ys.count 2 = ys.length
  | [], _ => rfl
  | y :: ys, h => by
    simp only [List.all_cons, Bool.and_eq_true] at h
    have ih := cells_sum ys h.2
    have hy := h.1
    unfold contentB at hy
    have hy := of_decide_eq_true hy
    have : y = 0 ∨ y = 1 ∨ y = 2 := by omega
    rcases this with rfl | rfl | rfl <;> simp <;> omega

/-! ### ascend -/
/-! ### the law's own loops -/
end Go.Proofs.Ytiflfnlpkhghpaa
