/- Promises 2 and 8: neighbours are so both ways; all neighbours are counted by rows and columns. -/
import Derived.Test.YtiflfnlpkhghpaaDoorN2
namespace Go.Proofs.YtiflfnlpkhghpaaDoor
open Go Go.Ip G

/-! ### of all cells of all boards -/
def ascB : List Int → Bool
  | a :: b :: l => decide (a < b) && ascB (b :: l)
  | _ => true

theorem asc_get : ∀ {L : List Int}, ascB L = true → ∀ i (hi : i + 1 < L.length), L[i] < L[i + 1]
  | [], _, i, hi => by simp at hi
  | [a], _, i, hi => by simp at hi
  | a :: b :: l, h, 0, hi => by simp only [ascB, Bool.and_eq_true, decide_eq_true_eq] at h; exact h.1
  | a :: b :: l, h, i + 1, hi => by
    simp only [ascB, Bool.and_eq_true] at h
    exact asc_get h.2 i (by simpa using hi)

def nearOk (R C K : Nat) : Bool :=
  (nearN R C K).all (fun e => decide (0 ≤ e ∧ e < ((R * C : Nat) : Int)) && decide (e ≠ (K : Int)) && decide ((K : Int) ∈ nearN R C e.toNat) && decide (((R * C : Nat) : Int) - 1 - e ∈ nearN R C (R * C - 1 - K))) &&
    ascB (nearN R C K) && decide ((nearN R C (R * C - 1 - K)).length = (nearN R C K).length)

theorem near_all : ((List.range 5).all fun R => (List.range 5).all fun C => (List.range 9).all fun K => !(decide (1 ≤ R ∧ 1 ≤ C ∧ R * C ≤ 9 ∧ K < R * C)) || nearOk R C K) = true := by kernel_rfl

theorem near_ok {R C K : Nat} (h1 : 1 ≤ R) (h2 : R ≤ 4) (h3 : 1 ≤ C) (h4 : C ≤ 4) (h9 : R * C ≤ 9) (hK : K < R * C) : nearOk R C K = true := by
  have := List.all_eq_true.1 near_all R (by rw [List.mem_range]; omega)
  have := List.all_eq_true.1 this C (by rw [List.mem_range]; omega)
  have := List.all_eq_true.1 this K (by rw [List.mem_range]; omega)
  rwa [decide_eq_true ⟨h1, h3, h9, hK⟩, Bool.not_true, Bool.false_or] at this

def sumTo (R C : Nat) : Nat → Nat
  | 0 => 0
  | i + 1 => sumTo R C i + (nearN R C i).length

theorem sum_all : ((List.range 5).all fun R => (List.range 5).all fun C => !(decide (1 ≤ R ∧ 1 ≤ C ∧ R * C ≤ 9)) || decide ((sumTo R C (R * C) : Int) = 2 * ((R : Int) * ((C : Int) - 1) + (C : Int) * ((R : Int) - 1) + ((R : Int) - 1) * ((C : Int) - 1)))) = true := by kernel_rfl

theorem sum_ok {R C : Nat} (h1 : 1 ≤ R) (h2 : R ≤ 4) (h3 : 1 ≤ C) (h4 : C ≤ 4) (h9 : R * C ≤ 9) : (sumTo R C (R * C) : Int) = 2 * ((R : Int) * ((C : Int) - 1) + (C : Int) * ((R : Int) - 1) + ((R : Int) - 1) * ((C : Int) - 1)) := by
  have := List.all_eq_true.1 sum_all R (by rw [List.mem_range]; omega)
  have := List.all_eq_true.1 this C (by rw [List.mem_range]; omega)
  rw [decide_eq_true ⟨h1, h3, h9⟩, Bool.not_true, Bool.false_or] at this
  exact of_decide_eq_true this

theorem nearN_length (R C i : Nat) : (nearN R C i).length ≤ 6 := nearFrom_length R C i steps
theorem sumTo_le (R C : Nat) : ∀ i, sumTo R C i ≤ 6 * i
  | 0 => Nat.le_refl _
  | i + 1 => by
    have := sumTo_le R C i
    have := nearN_length R C i
    rw [sumTo]; omega

theorem nearL_cell {r c k : Int} {R C K : Nat} (h : CellOf r c k R C K) : nearL r c k = nearN R C K := by
  obtain ⟨rfl, rfl, rfl, h1, h2, h3, h4, h9, hK⟩ := h
  unfold nearL cellB boardB
  have e : ((R : Int) * (C : Int)) = ((R * C : Nat) : Int) := by rw [Int.natCast_mul]
  rw [decide_eq_true ⟨by omega, by omega, by omega, by omega, by omega⟩, decide_eq_true ⟨by omega, by omega⟩, Bool.true_and, if_pos rfl]; rfl

variable (g : Nat → PV) (lf n : Nat)

theorem quo_39 {v : Int} (h0 : 0 ≤ v) (h1 : v < 40) : binP Tryd.prog .quo 3 (.int .i64 v) (.int .i64 39) = some (.int .i64 (v.tdiv 39)) ∧ 0 ≤ v.tdiv 39 ∧ v.tdiv 39 ≤ 40 := by
  have := tdiv_range h0 (show (1 : Int) ≤ 39 by decide)
  rw [bin_quo (by decide), wr (by omega)]
  exact ⟨rfl, this.1, by omega⟩

/-! ### promise 8 -/
end Go.Proofs.YtiflfnlpkhghpaaDoor
