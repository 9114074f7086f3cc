/- The neighbours of a cell: the program's loop over its table of steps, the model's two loops, and the exact law. -/
import Derived.Test.YtiflfnlpkhghpaaP4
import Derived.Test.YtiflfnlpkhghpaaC6
namespace Go.Proofs.Ytiflfnlpkhghpaa
open Go Go.Ip G

/-! ### the table of steps -/
def tabCells : List PV := [.int .i64 (-1), .int .i64 0, .int .i64 (-1), .int .i64 1, .int .i64 0, .int .i64 (-1), .int .i64 0, .int .i64 1, .int .i64 1, .int .i64 (-1), .int .i64 1, .int .i64 0]
def steps : List (Int × Int) := [(-1, 0), (-1, 1), (0, -1), (0, 1), (1, -1), (1, 0)]
def stp (i : Nat) : Int × Int := steps.getD i (0, 0)

theorem stp_small (i : Nat) : -1 ≤ (stp i).1 ∧ (stp i).1 ≤ 1 ∧ -1 ≤ (stp i).2 ∧ (stp i).2 ≤ 1 := by
  by_cases hi : i < 6
  · have : i = 0 ∨ i = 1 ∨ i = 2 ∨ i = 3 ∨ i = 4 ∨ i = 5 := by omega
    rcases this with rfl | rfl | rfl | rfl | rfl | rfl <;> decide
  · have : stp i = (0, 0) := by
      unfold stp
      rw [List.getD_eq_getElem?_getD, List.getElem?_eq_none (by show 6 ≤ i; omega)]; rfl
    rw [this]; decide

theorem pair_load0 (h : PHeap) (a b : PV) : loadP Try.prog 3 (.ptr h.length 0) (h ++ [.own 1 [a, b]]) = some a := by simp [loadP, tyAgg, cellsAt, PObj.get]
theorem pair_load1 (h : PHeap) (a b : PV) : loadP Try.prog 3 (.ptr h.length 1) (h ++ [.own 1 [a, b]]) = some b := by simp [loadP, tyAgg, cellsAt, PObj.get]

/-! ### what is meant -/
def rowAt (C k : Nat) (s : Int × Int) : Int := ((k / C : Nat) : Int) + s.1
def colAt (C k : Nat) (s : Int × Int) : Int := ((k % C : Nat) : Int) + s.2
def inB (R C k : Nat) (s : Int × Int) : Bool := decide (0 ≤ rowAt C k s) && decide (rowAt C k s < R) && decide (0 ≤ colAt C k s) && decide (colAt C k s < C)
def nearFrom (R C k : Nat) (ss : List (Int × Int)) : List Int := (ss.filter (inB R C k)).map fun s => rowAt C k s * C + colAt C k s
def nearN (R C k : Nat) : List Int := nearFrom R C k steps
def cellB (r c k : Int) : Bool := boardB r c && decide (0 ≤ k ∧ k < r * c)
def nearL (r c k : Int) : List Int := if cellB r c k = true then nearN r.toNat c.toNat k.toNat else []

theorem nearFrom_append (R C k : Nat) (a b : List (Int × Int)) : nearFrom R C k (a ++ b) = nearFrom R C k a ++ nearFrom R C k b := by
  unfold nearFrom; rw [List.filter_append, List.map_append]
theorem nearFrom_length (R C k : Nat) (a : List (Int × Int)) : (nearFrom R C k a).length ≤ a.length := by
  unfold nearFrom; rw [List.length_map]; exact List.length_filter_le _ _
theorem nearL_length (r c k : Int) : (nearL r c k).length ≤ 6 := by
  unfold nearL
  split
  · exact nearFrom_length _ _ _ steps
  · simp

/-- A cell of a board, as numbers. -/
def CellOf (r c k : Int) (R C K : Nat) : Prop := r = (R : Int) ∧ c = (C : Int) ∧ k = (K : Int) ∧ 1 ≤ R ∧ R ≤ 4 ∧ 1 ≤ C ∧ C ≤ 4 ∧ R * C ≤ 9 ∧ K < R * C

theorem cell_of {r c k : Int} (h : cellB r c k = true) : ∃ R C K, CellOf r c k R C K := by
  unfold cellB at h
  rw [Bool.and_eq_true] at h
  have hb := h.1
  unfold boardB at hb
  have hm := of_decide_eq_true hb
  have hk := of_decide_eq_true h.2
  obtain ⟨R, rfl⟩ := Int.eq_ofNat_of_zero_le (show 0 ≤ r by omega)
  obtain ⟨C, rfl⟩ := Int.eq_ofNat_of_zero_le (show 0 ≤ c by omega)
  obtain ⟨K, rfl⟩ := Int.eq_ofNat_of_zero_le (show 0 ≤ k by omega)
  have h9 := hm.2.2.2.2
  rw [← Int.natCast_mul] at h9 hk
  exact ⟨R, C, K, rfl, rfl, rfl, by omega, by omega, by omega, by omega, by omega, by omega⟩

theorem row_small (C k : Nat) (s : Int × Int) (hk : k ≤ 9) (hs : -1 ≤ s.1 ∧ s.1 ≤ 1 ∧ -1 ≤ s.2 ∧ s.2 ≤ 1) : -1 ≤ rowAt C k s ∧ rowAt C k s ≤ 10 ∧ -1 ≤ colAt C k s ∧ colAt C k s ≤ 10 := by
  unfold rowAt colAt
  have e1 : ((k / C : Nat) : Int) ≤ 9 := Int.ofNat_le.2 (Nat.le_trans (Nat.div_le_self k C) hk)
  have e2 : ((k % C : Nat) : Int) ≤ 9 := Int.ofNat_le.2 (Nat.le_trans (Nat.mod_le k C) hk)
  have e3 : (0 : Int) ≤ ((k / C : Nat) : Int) := Int.natCast_nonneg _
  have e4 : (0 : Int) ≤ ((k % C : Nat) : Int) := Int.natCast_nonneg _
  refine ⟨?_, ?_, ?_, ?_⟩ <;> omega

theorem mul_in {y : Int} {C : Nat} (h0 : 0 ≤ y) (h1 : y ≤ 10) (h2 : 1 ≤ C) (h3 : C ≤ 4) : 0 ≤ y * C ∧ y * C ≤ 40 := by
  have : C = 1 ∨ C = 2 ∨ C = 3 ∨ C = 4 := by omega
  rcases this with rfl | rfl | rfl | rfl <;> omega

/-- An operation under a guard. -/
theorem gd {α β : Type} {b t : Bool} {x y : Option α} {f : α → Option β} {r : Option β} (hb : b = t) (hx : x.bind f = r) : ((wantV (.bool b) t).bind fun v => (bif v then x else y).bind f) = r := by
  subst hb; simpa using hx
theorem gn {α β : Type} {b t : Bool} {x y : Option α} {f : α → Option β} {r : Option β} (hb : b = !t) (hy : y.bind f = r) : ((wantV (.bool b) t).bind fun v => (bif v then x else y).bind f) = r := by
  subst hb; cases t <;> simpa using hy

variable (g : Nat → PV) (lf n : Nat)

/-! ### the program -/
end Go.Proofs.Ytiflfnlpkhghpaa
