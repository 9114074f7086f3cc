/- Promise 1: boards are turned. -/
import Derived.Test.YtaajbolfmhhdcaaRd3
namespace Go.Proofs.Ytaajbolfmhhdcaa
open Go Go.Ip Go.RowKit G

variable (g : Nat → PV) (lf n : Nat)

theorem boardB_comm (r c : Int) : boardB c r = boardB r c := by
  unfold boardB
  have : c * r = r * c := Int.mul_comm c r
  rw [this]
  congr 1
  apply propext
  constructor <;> (intro h; omega)

theorem drawBoard_calls {p : PV} {xs : List Int} {h : PHeap} (N : Nat) (hN : 4 ≤ N) (ha : Arg h p xs) :
    ∃ (r c : Int) (h' : PHeap), CL g lf N fn_spec_DrawBoardOk [p] h = some (.tup [.int .i64 r, .int .i64 c], h') ∧ Keep h.length h h' ∧ -1 ≤ r ∧ r ≤ 5 ∧ -1 ≤ c ∧ c ≤ 5 := by
  obtain ⟨n, rfl⟩ : ∃ n, N = n + 1 := ⟨N - 1, by omega⟩
  rw [spec_DrawBoardOk.call_eq]
  obtain ⟨h1, e1, r1, k1⟩ := open_calls g lf n (by omega) ha
  obtain ⟨r, c, h2, e2, r2, k2, hrc⟩ := board_calls g lf n (by omega) 2 r1 (by omega) (by omega) (by omega)
  refine ⟨r, c, h2, ?_, k1.trans ((k2.keep (by exact k1.1)).mono (Nat.le_refl _)), hrc⟩
  unfold spec_DrawBoardOk.main
  exact bd e1 (bd e2 (bd extract_tup (bd extract_tup (bd res_int (bd res_int rfl)))))

theorem boardOk_N (N : Nat) (hN : 2 ≤ N) (h : PHeap) (r c : Int) : CL g lf N fn_impl_BoardOk [.int .i64 r, .int .i64 c] h = some (.bool (boardB r c), h) := by
  obtain ⟨n, rfl⟩ : ∃ n, N = n + 2 := ⟨N - 2, by omega⟩
  exact boardOk_calls g lf n h r c
theorem specBoardOk_N (N : Nat) (hN : 2 ≤ N) (h : PHeap) (r c : Int) : CL g lf N fn_spec_BoardOk [.int .i64 r, .int .i64 c] h = some (.bool (boardB r c), h) := by
  obtain ⟨n, rfl⟩ : ∃ n, N = n + 2 := ⟨N - 2, by omega⟩
  exact specBoardOk_calls g lf n h r c

theorem fnBoardOk_calls {p : PV} {xs : List Int} {h : PHeap} (N : Nat) (hN : 5 ≤ N) (ha : Arg h p xs) :
    ∃ h', CL g lf N fn_laws_FnBoardOk [p] h = some (.bool true, h') := by
  obtain ⟨n, rfl⟩ : ∃ n, N = n + 1 := ⟨N - 1, by omega⟩
  rw [laws_FnBoardOk.call_eq]
  have hlenp : lenP Try.prog 22 p = some (.int .i64 xs.length) := (ha.1 h (Keep.refl _ _)).len tyB
  by_cases hbig : (1048576 : Int) < (xs.length : Int)
  · refine ⟨h, ?_⟩
    unfold laws_FnBoardOk.main
    have f0 : binP Try.prog .gtr 3 (.int .i64 (xs.length : Int)) (.int .i64 1048576) = some (.bool true) := by rw [bin_gtr, decide_eq_true hbig]
    exact bd hlenp (bd f0 (cdT (bd res_bool rfl)))
  · obtain ⟨r, c, h1, e1, _, _⟩ := drawBoard_calls g lf n (by omega) ha
    refine ⟨h1, ?_⟩
    have b11 : boardB 1 1 = true := by decide
    have b01 : boardB 0 1 = false := by decide
    have e2 := boardOk_N g lf n (by omega) h1 r c
    have e3 := specBoardOk_N g lf n (by omega) h1 r c
    have e4 := boardOk_N g lf n (by omega) h1 c r
    have e5 := boardOk_N g lf n (by omega) h1 1 1
    have e6 := boardOk_N g lf n (by omega) h1 0 1
    rw [boardB_comm] at e4
    rw [b11] at e5
    rw [b01] at e6
    obtain ⟨B, hB⟩ : ∃ B, B = boardB r c := ⟨_, rfl⟩
    rw [← hB] at e2 e3 e4
    have f1 : binP Try.prog .neq 4 (.bool B) (.bool B) = some (.bool false) := by rw [neqB]; simp
    have f2 : binP Try.prog .eql 4 (.bool B) (.bool B) = some (.bool true) := by rw [eqlB]; simp
    unfold laws_FnBoardOk.main
    have f0 : binP Try.prog .gtr 3 (.int .i64 (xs.length : Int)) (.int .i64 1048576) = some (.bool false) := by rw [bin_gtr, decide_eq_false hbig]
    refine bd hlenp ?_
    refine bd f0 ?_
    refine cdF ?_
    refine bd e1 ?_
    refine bd (v := PV.int .i64 r) rfl ?_
    refine bd (v := PV.int .i64 c) rfl ?_
    refine bd e2 ?_
    refine bd e3 ?_
    refine bd f1 ?_
    refine cdF ?_
    refine bd e4 (bd f2 (bd (want_bool (x := true) (y := true)) (bd e5 (bd (v := PV.bool true) rfl ?_))))
    refine bd (want_bool (x := true) (y := true)) (bd e6 (bd (want_bool (x := true) (y := true)) (bd (v := (PV.bool true, h1)) rfl (bd (v := PV.bool true) rfl (bd res_bool rfl)))))

end Go.Proofs.Ytaajbolfmhhdcaa
