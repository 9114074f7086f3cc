/- The model's neighbours, 'is a number in a list', and the exact law on neighbours. -/
import Derived.Test.YtiflfnlpkhghpaaN1
namespace Go.Proofs.Ytiflfnlpkhghpaa
open Go Go.Ip G

variable (g : Nat → PV) (lf n : Nat)

theorem l1In_N (N : Nat) (hN : 1 ≤ N) (h : PHeap) (a lo hi : Int) : CL g lf N fn_spec_l1In [.int .i64 a, .int .i64 lo, .int .i64 hi] h = some (.bool (decide (lo ≤ a ∧ a ≤ hi)), h) := by
  obtain ⟨n, rfl⟩ : ∃ n, N = n + 1 := ⟨N - 1, by omega⟩
  exact l1In_calls g lf n h a lo hi

def rowSteps (i : Int) : List (Int × Int) := [(i, -1), (i, 0), (i, 1)].filter fun s => s.1 != s.2
theorem rowSteps_all : rowSteps (-1) ++ rowSteps 0 ++ rowSteps 1 = steps := by decide

theorem rowSteps_length (i : Int) : (rowSteps i).length ≤ 3 := List.length_filter_le _ _

/-! ### hasInt -/
/-! ### the exact law -/
theorem eqIntS_N {xs ys : List Int} {p q : PV} {h : PHeap} (N : Nat) (hN : 1 ≤ N) (hp : IntSl .i64 h p xs) (hq : IntSl .i64 h q ys) (hl : xs.length ≤ 2 ^ 36) (hf : xs.length < lf) :
    CL g lf N fn_laws_eqIntS [p, q] h = some (.bool (decide (xs = ys)), h) := by
  obtain ⟨n, rfl⟩ : ∃ n, N = n + 1 := ⟨N - 1, by omega⟩
  exact eqIntS_calls g lf n hp hq hl hf

end Go.Proofs.Ytiflfnlpkhghpaa
