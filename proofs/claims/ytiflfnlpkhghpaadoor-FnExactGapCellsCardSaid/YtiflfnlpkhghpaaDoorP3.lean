/- Promise 3: free boards are positions. -/
import Derived.Test.YtiflfnlpkhghpaaDoorRd4
import Derived.Test.YtiflfnlpkhghpaaDoorC5
namespace Go.Proofs.YtiflfnlpkhghpaaDoor
open Go Go.Ip Go.RowKit G

variable (g : Nat → PV) (lf n : Nat)

theorem alive_calls (N : Nat) (hN : 3 ≤ N) (h : PHeap) : CL g lf N fn_laws_alive [] h = some (.bool true, h) := by
  obtain ⟨n, rfl⟩ : ∃ n, N = n + 1 := ⟨N - 1, by omega⟩
  rw [laws_alive.call_eq]
  have b22 : boardB 2 2 = true := by decide
  have b02 : boardB 0 2 = false := by decide
  have e1 := boardOk_N g lf n (by omega) h 2 2
  have e2 := boardOk_N g lf n (by omega) h 0 2
  rw [b22] at e1
  rw [b02] at e2
  unfold laws_alive.main
  exact bd e1 (bd (want_bool (x := true) (y := true)) (bd e2 (bd (want_bool (x := true) (y := true)) (bd (v := (PV.bool true, h)) rfl (bd (v := PV.bool true) rfl (bd res_bool rfl))))))

theorem positionOk_N {xs : List Int} {p : PV} {h : PHeap} (N : Nat) (hN : 3 ≤ N) (r c : Int) (hp : IntSl .i64 h p xs) (hl : xs.length ≤ 2 ^ 36) (hf : xs.length < lf) :
    CL g lf N fn_impl_PositionOk [.int .i64 r, .int .i64 c, p] h = some (.bool (posB r c xs), h) := by
  obtain ⟨n, rfl⟩ : ∃ n, N = n + 3 := ⟨N - 3, by omega⟩
  exact positionOk_calls g lf n r c hp hl hf
theorem specPositionOk_N {xs : List Int} {p : PV} {h : PHeap} (N : Nat) (hN : 3 ≤ N) (r c : Int) (hp : IntSl .i64 h p xs) (hl : xs.length ≤ 2 ^ 36) (hf : xs.length < lf) :
    CL g lf N fn_spec_PositionOk [.int .i64 r, .int .i64 c, p] h = some (.bool (posB r c xs), h) := by
  obtain ⟨n, rfl⟩ : ∃ n, N = n + 3 := ⟨N - 3, by omega⟩
  exact specPositionOk_calls g lf n r c hp hl hf

/-- All stones of the first player are taken away. -/
def clearL (x : Int) : Int := if x = 1 then 0 else x

theorem contentB_clear {x : Int} (h : contentB x = true) : contentB (clearL x) = true := by
  unfold clearL
  split
  · decide
  · exact h

theorem posB_clear {r c : Int} {xs : List Int} (h : posB r c xs = true) : posB r c (xs.map clearL) = true := by
  unfold posB at h ⊢
  rw [Bool.and_eq_true, Bool.and_eq_true] at h ⊢
  refine ⟨⟨h.1.1, by rw [List.length_map]; exact h.1.2⟩, ?_⟩
  rw [List.all_eq_true] at h ⊢
  intro y hy
  obtain ⟨x, hx, rfl⟩ := List.mem_map.1 hy
  exact contentB_clear (h.2 x hx)

theorem posB_free {r c : Int} {m : Nat} (hb : boardB r c = true) (hm : (m : Int) = r * c) : posB r c (List.replicate m 0) = true := by
  unfold posB
  rw [Bool.and_eq_true, Bool.and_eq_true]
  refine ⟨⟨hb, decide_eq_true (by rw [List.length_replicate]; exact hm)⟩, ?_⟩
  rw [List.all_eq_true]
  intro y hy
  rw [List.eq_of_mem_replicate hy]
  decide

theorem posB_board {r c : Int} {xs : List Int} (hb : boardB r c = false) : posB r c xs = false := by
  unfold posB
  rw [hb]; rfl

end Go.Proofs.YtiflfnlpkhghpaaDoor
