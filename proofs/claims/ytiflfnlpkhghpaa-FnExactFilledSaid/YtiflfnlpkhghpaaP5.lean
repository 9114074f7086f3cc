/- Promise 5: turned by half a turn twice it is as before. -/
import Derived.Test.YtiflfnlpkhghpaaP3
namespace Go.Proofs.Ytiflfnlpkhghpaa
open Go Go.Ip Go.RowKit G

variable (g : Nat → PV) (lf n : Nat)

/-! ### sameInts: are two lists equal? -/
theorem cellsFrom_count (x : Int) : ∀ (ys : List Int) (i : Nat), (cellsFrom x i ys).length = ys.count x
  | [], _ => rfl
  | y :: ys, i => by
    have := cellsFrom_count x ys (i + 1)
    rw [cellsFrom, List.count_cons]
    by_cases h : y = x
    · rw [if_pos h, List.length_cons, this, if_pos (by simp [h])]
    · rw [if_neg h, this, if_neg (by simp [h])]; rfl

theorem posB_reverse (r c : Int) (xs : List Int) : posB r c xs.reverse = posB r c xs := by
  unfold posB
  rw [List.length_reverse, List.all_reverse]

theorem turn_turn {r c : Int} {xs : List Int} (h : posB r c xs = true) : turnL r c xs.reverse = xs := by
  unfold turnL
  rw [posB_reverse, if_pos h, List.reverse_reverse]

theorem cells_turn (r c x : Int) (xs : List Int) : (cellsL r c xs.reverse x).length = (cellsL r c xs x).length := by
  unfold cellsL
  rw [posB_reverse]
  split
  · rw [cellsFrom_count, cellsFrom_count, List.count_reverse]
  · rfl

theorem posB_some {r c : Int} {xs : List Int} (h : posB r c xs = true) : xs.length ≠ 0 := by
  unfold posB at h
  rw [Bool.and_eq_true, Bool.and_eq_true] at h
  have hb := h.1.1
  unfold boardB at hb
  have hm := of_decide_eq_true hb
  have hl := of_decide_eq_true h.1.2
  have : 0 < r * c := Int.mul_pos (by omega) (by omega)
  omega

end Go.Proofs.Ytiflfnlpkhghpaa
