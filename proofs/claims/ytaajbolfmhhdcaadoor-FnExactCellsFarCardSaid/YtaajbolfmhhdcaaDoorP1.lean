/- Promise 1: boards are turned. -/
import Derived.Test.YtaajbolfmhhdcaaDoorRd3
namespace Go.Proofs.YtaajbolfmhhdcaaDoor
open Go Go.Ip Go.RowKit G

variable (g : Nat → PV) (lf n : Nat)

theorem boardB_comm (r c : Int) : boardB c r = boardB r c := by
  unfold boardB
  have : c * r = r * c := Int.mul_comm c r
  rw [this]
  congr 1
  apply propext
  constructor <;> (intro h; omega)

theorem drawBoard_calls {p : PV} {xs : List Int} {h : PHeap} (N : Nat) (hN : 4 ≤ N) (ha : Arg h p xs) :
    ∃ (r c : Int) (h' : PHeap), CL g lf N fn_spec_DrawBoardOk [p] h = some (.tup [.int .i64 r, .int .i64 c], h') ∧ Keep h.length h h' ∧ -1 ≤ r ∧ r ≤ 5 ∧ -1 ≤ c ∧ c ≤ 5 := by
  obtain ⟨n, rfl⟩ : ∃ n, N = n + 1 := ⟨N - 1, by omega⟩
  rw [spec_DrawBoardOk.call_eq]
  obtain ⟨h1, e1, r1, k1⟩ := open_calls g lf n (by omega) ha
  obtain ⟨r, c, h2, e2, r2, k2, hrc⟩ := board_calls g lf n (by omega) 2 r1 (by omega) (by omega) (by omega)
  refine ⟨r, c, h2, ?_, k1.trans ((k2.keep (by exact k1.1)).mono (Nat.le_refl _)), hrc⟩
  unfold spec_DrawBoardOk.main
  exact bd e1 (bd e2 (bd extract_tup (bd extract_tup (bd res_int (bd res_int rfl)))))

theorem boardOk_N (N : Nat) (hN : 2 ≤ N) (h : PHeap) (r c : Int) : CL g lf N fn_impl_BoardOk [.int .i64 r, .int .i64 c] h = some (.bool (boardB r c), h) := by
  obtain ⟨n, rfl⟩ : ∃ n, N = n + 2 := ⟨N - 2, by omega⟩
  exact boardOk_calls g lf n h r c
theorem specBoardOk_N (N : Nat) (hN : 2 ≤ N) (h : PHeap) (r c : Int) : CL g lf N fn_spec_BoardOk [.int .i64 r, .int .i64 c] h = some (.bool (boardB r c), h) := by
  obtain ⟨n, rfl⟩ : ∃ n, N = n + 2 := ⟨N - 2, by omega⟩
  exact specBoardOk_calls g lf n h r c

end Go.Proofs.YtaajbolfmhhdcaaDoor
