/- What both functions that mirror a position compute, and the exact law on them. -/
import Derived.Test.YtiflfnlpkhghpaaP5
namespace Go.Proofs.Ytiflfnlpkhghpaa
open Go Go.Ip Go.RowKit G

variable (g : Nat → PV) (lf n : Nat)

def swapI (x : Int) : Int := if x = 1 then 2 else if x = 2 then 1 else x
/-- Where the mirrored position's cell k comes from: of a board of R rows and C columns. -/
def sig (R C k : Nat) : Nat := k % R * C + k / R
def mir (R C : Nat) (xs : List Int) : List Int := (List.range xs.length).map fun k => swapI (xs.getD (sig R C k) 0)
def mirL (r c : Int) (xs : List Int) : List Int := if posB r c xs = true then mir r.toNat c.toNat xs else []

theorem mirL_length (r c : Int) (xs : List Int) : (mirL r c xs).length ≤ xs.length := by
  unfold mirL mir; split <;> simp

theorem sig_small : ∀ R : Fin 5, ∀ C : Fin 5, ∀ k : Fin 10, 1 ≤ R.1 → 1 ≤ C.1 → k.1 < R.1 * C.1 → sig R.1 C.1 k.1 < R.1 * C.1 ∧ sig C.1 R.1 (sig R.1 C.1 k.1) = k.1 := by decide

/-- A board's sides, as numbers. -/
def Sides (r c : Int) (R C : Nat) (xs : List Int) : Prop := r = (R : Int) ∧ c = (C : Int) ∧ 1 ≤ R ∧ R ≤ 4 ∧ 1 ≤ C ∧ C ≤ 4 ∧ R * C ≤ 9 ∧ xs.length = R * C ∧ xs.all contentB = true

theorem sides_of {r c : Int} {xs : List Int} (h : posB r c xs = true) : ∃ R C, Sides r c R C xs := by
  unfold posB at h
  rw [Bool.and_eq_true, Bool.and_eq_true] at h
  have hb := h.1.1
  unfold boardB at hb
  have hm := of_decide_eq_true hb
  have hl := of_decide_eq_true h.1.2
  obtain ⟨R, rfl⟩ := Int.eq_ofNat_of_zero_le (show 0 ≤ r by omega)
  obtain ⟨C, rfl⟩ := Int.eq_ofNat_of_zero_le (show 0 ≤ c by omega)
  have h9 := hm.2.2.2.2
  rw [← Int.natCast_mul] at h9 hl
  exact ⟨R, C, rfl, rfl, by omega, by omega, by omega, by omega, by omega, by omega, h.2⟩

theorem sig_lt {R C k : Nat} (h1 : 1 ≤ R) (h2 : R ≤ 4) (h3 : 1 ≤ C) (h4 : C ≤ 4) (h9 : R * C ≤ 9) (hk : k < R * C) : sig R C k < R * C ∧ sig C R (sig R C k) = k :=
  sig_small ⟨R, by omega⟩ ⟨C, by omega⟩ ⟨k, by omega⟩ h1 h3 hk

theorem f_rem (i R : Nat) (hR : 1 ≤ R) : binP Try.prog .rem 3 (.int .i64 (i : Int)) (.int .i64 (R : Int)) = some (.int .i64 ((i % R : Nat) : Int)) := by
  rw [bin_rem (show (R : Int) ≠ 0 by omega)]; rfl
theorem f_quo (i R : Nat) (hR : 1 ≤ R) (hi : i ≤ 1000) : binP Try.prog .quo 3 (.int .i64 (i : Int)) (.int .i64 (R : Int)) = some (.int .i64 ((i / R : Nat) : Int)) := by
  rw [bin_quo (show (R : Int) ≠ 0 by omega), show ((i : Int).tdiv (R : Int)) = ((i / R : Nat) : Int) from rfl]
  have := Nat.div_le_self i R
  obtain ⟨q, hq⟩ : ∃ q, q = i / R := ⟨_, rfl⟩
  rw [← hq] at this ⊢
  rw [wr (by omega)]
theorem f_mul (a b : Nat) (h : a * b ≤ 1000) : binP Try.prog .mul 3 (.int .i64 (a : Int)) (.int .i64 (b : Int)) = some (.int .i64 ((a * b : Nat) : Int)) := by
  rw [bin_mul, ← Int.natCast_mul, wr (by omega)]
theorem f_add (a b : Nat) (h : a + b ≤ 1000) : binP Try.prog .add 3 (.int .i64 (a : Int)) (.int .i64 (b : Int)) = some (.int .i64 ((a + b : Nat) : Int)) := by
  rw [bin_add, ← Int.natCast_add, wr (by omega)]

end Go.Proofs.Ytiflfnlpkhghpaa
