/- Promise 4: each cell is of one kind. -/
import Derived.Test.YtiflfnlpkhghpaaDoorP5
namespace Go.Proofs.YtiflfnlpkhghpaaDoor
open Go Go.Ip Go.RowKit G

variable (g : Nat → PV) (lf n : Nat)

/-! ### what is listed -/
theorem cellsFrom_mem (x : Int) : ∀ (ys : List Int) (i : Nat) (e : Int), e ∈ cellsFrom x i ys → ∃ j : Nat, e = ((i + j : Nat) : Int) ∧ ys[j]? = some x
  | [], _, _, h => by cases h
  | y :: ys, i, e, h => by
    rw [cellsFrom] at h
    by_cases hy : y = x
    · rw [if_pos hy, List.mem_cons] at h
      rcases h with rfl | h
      · exact ⟨0, rfl, by simp [hy]⟩
      · obtain ⟨j, he, hj⟩ := cellsFrom_mem x ys (i + 1) e h
        exact ⟨j + 1, by rw [he]; congr 1; omega, by simpa using hj⟩
    · rw [if_neg hy] at h
      obtain ⟨j, he, hj⟩ := cellsFrom_mem x ys (i + 1) e h
      exact ⟨j + 1, by rw [he]; congr 1; omega, by simpa using hj⟩

theorem cellsFrom_sorted (x : Int) : ∀ (ys : List Int) (i : Nat), (cellsFrom x i ys).Pairwise (· < ·)
  | [], _ => List.Pairwise.nil
  | y :: ys, i => by
    rw [cellsFrom]
    have ih := cellsFrom_sorted x ys (i + 1)
    by_cases hy : y = x
    · rw [if_pos hy, List.pairwise_cons]
      refine ⟨fun e he => ?_, ih⟩
      obtain ⟨j, he, _⟩ := cellsFrom_mem x ys (i + 1) e he
      omega
    · rw [if_neg hy]; exact ih

theorem cells_sum : ∀ (ys : List Int), ys.all contentB = true → ys.count 0 + ys.count 1 + ys.count 2 = ys.length
  | [], _ => rfl
  | y :: ys, h => by
    simp only [List.all_cons, Bool.and_eq_true] at h
    have ih := cells_sum ys h.2
    have hy := h.1
    unfold contentB at hy
    have hy := of_decide_eq_true hy
    have : y = 0 ∨ y = 1 ∨ y = 2 := by omega
    rcases this with rfl | rfl | rfl <;> simp <;> omega

/-! ### ascend -/
theorem asc_loop {L : List Int} {p : PV} {h : PHeap} (hp : IntSl .i64 h p L) (hs : ∀ i (hi : i + 1 < L.length), L[i] < L[i + 1]) (hl : L.length ≤ 2 ^ 36) : ∀ (m j fuel : Nat), L.length ≤ j + 1 + m → j ≤ 2 ^ 36 → m < fuel →
    loopK (ev ((env g lf n).cx Tryd.prog laws_ascend.kl) laws_ascend.lp0) fuel (laws_ascend.st0 p (.int .i64 ((j + 1 : Nat) : Int)) h) (laws_ascend.K0 (env g lf n) (kTop Tryd.prog Tryd.f28)) = some (.bool true, h) := by
  intro m
  induction m with
  | zero =>
    intro j fuel hj hj2 hf
    obtain ⟨f, rfl⟩ : ∃ f, fuel = f + 1 := ⟨fuel - 1, by omega⟩
    rw [loopK_succ, laws_ascend.body0_eq]
    have f1 : binP Tryd.prog .lss 3 (.int .i64 ((j + 1 : Nat) : Int)) (.int .i64 (L.length : Int)) = some (.bool false) := by rw [bin_lss, decide_eq_false (by omega)]
    unfold laws_ascend.body0
    refine bd hp.len' (bd f1 (cdF ?_))
    show laws_ascend.K0 (env g lf n) _ (.exit 0) _ = _
    rw [laws_ascend.after0_se0_0_3_7]
    exact bd res_bool rfl
  | succ m ih =>
    intro j fuel hj hj2 hf
    obtain ⟨f, rfl⟩ : ∃ f, fuel = f + 1 := ⟨fuel - 1, by omega⟩
    rw [loopK_succ, laws_ascend.body0_eq]
    unfold laws_ascend.body0
    by_cases hlt : j + 1 < L.length
    · have f1 : binP Tryd.prog .lss 3 (.int .i64 ((j + 1 : Nat) : Int)) (.int .i64 (L.length : Int)) = some (.bool true) := by rw [bin_lss, decide_eq_true (by omega)]
      have f2 : binP Tryd.prog .sub 3 (.int .i64 ((j + 1 : Nat) : Int)) (.int .i64 1) = some (.int .i64 (j : Int)) := by rw [bin_sub, show (((j + 1 : Nat) : Int) - 1) = (j : Int) by omega, wr (by omega)]
      have f3 : binP Tryd.prog .add 3 (.int .i64 ((j + 1 : Nat) : Int)) (.int .i64 1) = some (.int .i64 ((j + 1 + 1 : Nat) : Int)) := by rw [bin_add, nx (by omega)]
      obtain ⟨a, ha, hla⟩ := hp.at' (show j < L.length by omega)
      obtain ⟨b, hb, hlb⟩ := hp.at' hlt
      have hlt' := hs j hlt
      have f4 : binP Tryd.prog .geq 3 (.int .i64 L[j]) (.int .i64 L[j + 1]) = some (.bool false) := by rw [bin_geq, decide_eq_false (by omega)]
      exact bd hp.len' (bd f1 (cdT (bd f2 (bd ha (bd hla (bd hb (bd hlb (bd f4 (cdF (bd f3 (ih (j + 1) f (by omega) (by omega) (by omega))))))))))))
    · have f1 : binP Tryd.prog .lss 3 (.int .i64 ((j + 1 : Nat) : Int)) (.int .i64 (L.length : Int)) = some (.bool false) := by rw [bin_lss, decide_eq_false (by omega)]
      refine bd hp.len' (bd f1 (cdF ?_))
      show laws_ascend.K0 (env g lf n) _ (.exit 0) _ = _
      rw [laws_ascend.after0_se0_0_3_7]
      exact bd res_bool rfl

theorem ascend_calls {L : List Int} {p : PV} {h : PHeap} (N : Nat) (hN : 1 ≤ N) (hp : IntSl .i64 h p L) (hs : ∀ i (hi : i + 1 < L.length), L[i] < L[i + 1]) (hl : L.length ≤ 2 ^ 36) (hf : L.length < lf) :
    CL g lf N fn_laws_ascend [p] h = some (.bool true, h) := by
  obtain ⟨n, rfl⟩ : ∃ n, N = n + 1 := ⟨N - 1, by omega⟩
  rw [laws_ascend.call_eq]
  exact asc_loop g lf n hp hs hl L.length 0 lf (by omega) (by omega) hf

/-! ### the law's own loops -/
end Go.Proofs.YtiflfnlpkhghpaaDoor
