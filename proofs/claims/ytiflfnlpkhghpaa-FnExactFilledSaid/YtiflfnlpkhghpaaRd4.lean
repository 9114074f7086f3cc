/- The position that the model draws: at most ten numbers, whatever they are. -/
import Derived.Test.YtiflfnlpkhghpaaP1
namespace Go.Proofs.Ytiflfnlpkhghpaa
open Go Go.Ip Go.RowKit G

variable (g : Nat → PV) (lf n : Nat)

theorem mul_bound {r c : Int} (h1 : -1 ≤ r) (h2 : r ≤ 5) (h3 : -1 ≤ c) (h4 : c ≤ 5) : -5 ≤ r * c ∧ r * c ≤ 25 := by
  have : r = -1 ∨ r = 0 ∨ r = 1 ∨ r = 2 ∨ r = 3 ∨ r = 4 ∨ r = 5 := by omega
  rcases this with rfl | rfl | rfl | rfl | rfl | rfl | rfl <;> omega

theorem OwnSl.keepOnly {n id : Nat} {h h' : PHeap} {p : PV} {xs : List Int} (s : OwnSl n h p xs) (hk : Only id (id + 1) h h') (hn : id < n) : OwnSl n h' p xs :=
  s.keepX (m := h.length) hk.x hn (Nat.le_refl _)

theorem tab2 (h : PHeap) : buildSliceP Try.prog 22 2 [(0, .int .i64 (-1)), (1, .int .i64 3)] h = some (.sl h.length 0 2, h ++ [.own 1 [.int .i64 (-1), .int .i64 3]]) := by
  have := lit2 h [] (-1) 3
  simpa using this

end Go.Proofs.Ytiflfnlpkhghpaa
