/- The model's chapter 2: what Joins, GroupOf, GapOf, Filled and GapCells of it compute. -/
import Derived.Test.YtiflfnlpkhghpaaS1
namespace Go.Proofs.Ytiflfnlpkhghpaa
open Go Go.Ip G

def playerB (p : Int) : Bool := decide (1 ≤ p ∧ p ≤ 2)
def joinsL (r c : Int) (xs : List Int) (p : Int) : Bool := posB r c xs && playerB p && joinsN r.toNat c.toNat p.toNat (setL xs p)
def gapOfN (R C P : Nat) (xs : List Int) : Int := gapN (masksN R C) (setL xs P) (setL xs 0) (sideN R C P false) (sideN R C P true) (R * C)
def gapL (r c : Int) (xs : List Int) (p : Int) : Int := if (posB r c xs && playerB p) = true then gapOfN r.toNat c.toNat p.toNat xs else -1
def fillL (p x : Int) : Int := if x = 0 then p else x
def filledL (r c : Int) (xs : List Int) (p : Int) : List Int := if (posB r c xs && playerB p) = true then xs.map (fillL p) else []
def listFrom (set : Nat) : Nat → Nat → List Int
  | 0, _ => []
  | m + 1, k => if set >>> k % 2 = 1 then (k : Int) :: listFrom set m (k + 1) else listFrom set m (k + 1)
def listN (set : Nat) : List Int := listFrom set 9 0
def stoneB (r c : Int) (xs : List Int) (k : Int) : Bool := posB r c xs && decide (0 ≤ k ∧ k < (xs.length : Int)) && !decide (xs.getD k.toNat 0 = 0)
def groupL (r c : Int) (xs : List Int) (k : Int) : List Int := if stoneB r c xs k = true then listN (growN (masksN r.toNat c.toNat) (setL xs (xs.getD k.toNat 0)) (1 <<< k.toNat)) else []
def gapCellsL (r c : Int) (xs : List Int) (p : Int) : List Int :=
  if 0 < gapL r c xs p then ((List.range xs.length).filter fun k => decide (xs.getD k 0 = 0) && decide (gapL r c (xs.set k p) p = gapL r c xs p - 1)).map fun k : Nat => (k : Int) else []

theorem board_of_sides {r c : Int} {R C : Nat} {xs : List Int} (h : Sides r c R C xs) : BoardOf R C := by
  obtain ⟨_, _, h1, h2, h3, h4, h9, _, _⟩ := h
  exact ⟨h1, h2, h3, h4, h9⟩
theorem player_of {p : Int} (h : playerB p = true) : ∃ P : Nat, p = (P : Int) ∧ (P = 1 ∨ P = 2) := by
  unfold playerB at h
  have := of_decide_eq_true h
  obtain ⟨P, rfl⟩ := Int.eq_ofNat_of_zero_le (show 0 ≤ p by omega)
  exact ⟨P, rfl, by omega⟩

variable (g : Nat → PV) (lf n : Nat)

/-! ### a set's list -/
theorem listFrom_length (set : Nat) : ∀ (m k : Nat), (listFrom set m k).length ≤ m
  | 0, _ => Nat.le_refl _
  | m + 1, k => by
    have := listFrom_length set m (k + 1)
    rw [listFrom]; split
    · rw [List.length_cons]; omega
    · omega
theorem listN_length (set : Nat) : (listN set).length ≤ 9 := listFrom_length set 9 0

theorem listFrom_nil {set : Nat} : ∀ (m k : Nat), set >>> k = 0 → listFrom set m k = []
  | 0, _, _ => rfl
  | m + 1, k, h => by
    have h2 : set >>> (k + 1) = 0 := by rw [Nat.shiftRight_add, h]; rfl
    rw [listFrom, h, if_neg (by decide), listFrom_nil m (k + 1) h2]

/-! ### gaps -/
/-! ### the functions -/
end Go.Proofs.Ytiflfnlpkhghpaa
