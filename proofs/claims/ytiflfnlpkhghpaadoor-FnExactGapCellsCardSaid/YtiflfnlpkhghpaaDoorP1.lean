/- Promise 1: boards are turned. -/
import Derived.Test.YtiflfnlpkhghpaaDoorRd3
namespace Go.Proofs.YtiflfnlpkhghpaaDoor
open Go Go.Ip Go.RowKit G

variable (g : Nat → PV) (lf n : Nat)

theorem boardB_comm (r c : Int) : boardB c r = boardB r c := by
  unfold boardB
  have : c * r = r * c := Int.mul_comm c r
  rw [this]
  congr 1
  apply propext
  constructor <;> (intro h; omega)

theorem boardOk_N (N : Nat) (hN : 2 ≤ N) (h : PHeap) (r c : Int) : CL g lf N fn_impl_BoardOk [.int .i64 r, .int .i64 c] h = some (.bool (boardB r c), h) := by
  obtain ⟨n, rfl⟩ : ∃ n, N = n + 2 := ⟨N - 2, by omega⟩
  exact boardOk_calls g lf n h r c
theorem specBoardOk_N (N : Nat) (hN : 2 ≤ N) (h : PHeap) (r c : Int) : CL g lf N fn_spec_BoardOk [.int .i64 r, .int .i64 c] h = some (.bool (boardB r c), h) := by
  obtain ⟨n, rfl⟩ : ∃ n, N = n + 2 := ⟨N - 2, by omega⟩
  exact specBoardOk_calls g lf n h r c

end Go.Proofs.YtiflfnlpkhghpaaDoor
