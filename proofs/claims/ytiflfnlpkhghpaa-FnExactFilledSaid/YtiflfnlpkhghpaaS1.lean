/- The model's sets of cells: masks, sides, the cells with a stone, growing, and whether sides are joined. -/
import Derived.Test.YtiflfnlpkhghpaaT2
namespace Go.Proofs.Ytiflfnlpkhghpaa
open Go Go.Ip G

def masksN (R C : Nat) : List Nat := (List.range (R * C)).map fun k => orAll 0 (nearN R C k)
def ints (M : List Nat) : List Int := M.map fun x : Nat => (x : Int)
theorem ints_length (M : List Nat) : (ints M).length = M.length := List.length_map ..
theorem ints_get {M : List Nat} {k : Nat} (hk : k < M.length) : (ints M)[k]'(by rw [ints_length]; exact hk) = ((M.getD k 0 : Nat) : Int) := by
  simp [ints, List.getD_eq_getElem?_getD, hk]

/-- A board, as numbers. -/
def BoardOf (R C : Nat) : Prop := 1 ≤ R ∧ R ≤ 4 ∧ 1 ≤ C ∧ C ≤ 4 ∧ R * C ≤ 9

theorem masksN_length (R C : Nat) : (masksN R C).length = R * C := by simp [masksN]
theorem masksN_lt {R C : Nat} (hb : BoardOf R C) : ∀ m ∈ masksN R C, m < 2 ^ 9 := by
  intro m hm
  obtain ⟨k, hk, rfl⟩ := List.mem_map.1 hm
  rw [List.mem_range] at hk
  obtain ⟨h1, h2, h3, h4, h9⟩ := hb
  exact orAll_lt _ _ (fun e he => by have := near_in h1 h2 h3 h4 h9 hk e he; omega) (by decide)

/-- An operation under a guard that holds nothing. -/
theorem gu {α : Type} {t : Bool} {β : Type} {x y : Option α} {f : α → Option β} {r : Option β} (hy : y.bind f = r) : ((wantV (.tup []) t).bind fun v => (bif v then x else y).bind f) = r := by
  simpa using hy

variable (g : Nat → PV) (lf n : Nat)

/-! ### masks -/
/-! ### sides -/
def atSide (C P i : Nat) : Nat := if P = 2 then i % C else i / C
def endSide (R C P : Nat) : Nat := if P = 2 then C - 1 else R - 1
def sideFrom (R C P : Nat) (last : Bool) : Nat → Nat → Nat → Nat
  | 0, _, w => w
  | m + 1, i, w => sideFrom R C P last m (i + 1) (if (bif last then decide (atSide C P i = endSide R C P) else decide (atSide C P i = 0)) = true then w ||| (1 <<< i) else w)
def sideN (R C P : Nat) (last : Bool) : Nat := sideFrom R C P last (R * C) 0 0

theorem sideFrom_lt {R C P : Nat} {last : Bool} (h9 : R * C ≤ 9) : ∀ (m i w : Nat), i + m = R * C → w < 2 ^ 9 → sideFrom R C P last m i w < 2 ^ 9
  | 0, _, _, _, hw => hw
  | m + 1, i, w, him, hw => by
    rw [sideFrom]
    refine sideFrom_lt h9 m (i + 1) _ (by omega) ?_
    split
    · exact Nat.or_lt_two_pow hw (shl_lt (by omega))
    · exact hw
theorem sideN_lt {R C P : Nat} {last : Bool} (hB : BoardOf R C) : sideN R C P last < 2 ^ 9 := sideFrom_lt hB.2.2.2.2 _ _ _ (by omega) (by decide)

/-! ### the cells with a stone -/
def setFrom (what : Int) : Nat → List Int → Nat → Nat
  | _, [], w => w
  | k, x :: xs, w => setFrom what (k + 1) xs (if x = what then w ||| (1 <<< k) else w)
def setL (xs : List Int) (what : Int) : Nat := setFrom what 0 xs 0

theorem setFrom_lt (what : Int) {n : Nat} : ∀ (xs : List Int) (k w : Nat), k + xs.length ≤ n → w < 2 ^ n → setFrom what k xs w < 2 ^ n
  | [], _, _, _, hw => hw
  | x :: xs, k, w, hk, hw => by
    rw [setFrom]
    rw [List.length_cons] at hk
    refine setFrom_lt what xs (k + 1) _ (by omega) ?_
    split
    · refine Nat.or_lt_two_pow hw ?_
      rw [Nat.one_shiftLeft]; exact Nat.pow_lt_pow_right (by decide) (by omega)
    · exact hw
theorem setL_lt (what : Int) {xs : List Int} {n : Nat} (h : xs.length ≤ n) : setL xs what < 2 ^ n := setFrom_lt what xs 0 0 (by omega) (Nat.two_pow_pos n)

theorem setFrom_bit (what : Int) (j : Nat) : ∀ (xs : List Int) (k w : Nat), (setFrom what k xs w).testBit j = true ↔ w.testBit j = true ∨ ∃ i, j = k + i ∧ xs[i]? = some what
  | [], k, w => by simp [setFrom]
  | x :: xs, k, w => by
    rw [setFrom, setFrom_bit what j xs (k + 1)]
    have hs : (∃ i, j = k + i ∧ (x :: xs)[i]? = some what) ↔ (j = k ∧ x = what) ∨ ∃ i, j = k + 1 + i ∧ xs[i]? = some what := by
      constructor
      · rintro ⟨i, h1, h2⟩
        cases i with
        | zero => exact .inl ⟨by omega, by simpa using h2⟩
        | succ i => exact .inr ⟨i, by omega, by simpa using h2⟩
      · rintro (⟨h1, h2⟩ | ⟨i, h1, h2⟩)
        · exact ⟨0, by omega, by simp [h2]⟩
        · exact ⟨i + 1, by omega, by simpa using h2⟩
    rw [hs]
    by_cases e : x = what
    · rw [if_pos e, Nat.testBit_or, one_bit, Bool.or_eq_true, decide_eq_true_iff]
      simp [e, or_assoc]
    · rw [if_neg e]; simp [e]

theorem setL_bit {xs : List Int} {what : Int} {j : Nat} : (setL xs what).testBit j = true ↔ xs[j]? = some what := by
  unfold setL
  rw [setFrom_bit]
  constructor
  · rintro (h | ⟨i, h1, h2⟩)
    · rw [Nat.zero_testBit] at h; cases h
    · rw [Nat.zero_add] at h1; subst h1; exact h2
  · intro h; exact .inr ⟨j, by omega, h⟩

/-! ### growing -/
theorem bitq (x k : Nat) (hk : k ≤ 20) : binP Try.prog .shr 3 (.int .i64 (x : Int)) (.int .i64 (k : Int)) = some (.int .i64 ((x >>> k : Nat) : Int)) ∧ binP Try.prog .rem 3 (.int .i64 ((x >>> k : Nat) : Int)) (.int .i64 2) = some (.int .i64 ((x >>> k % 2 : Nat) : Int)) ∧
    binP Try.prog .eql 3 (.int .i64 ((x >>> k % 2 : Nat) : Int)) (.int .i64 1) = some (.bool (decide (x >>> k % 2 = 1))) :=
  ⟨f_shr x k (by omega), f_rem (x >>> k) 2 (by decide), by rw [bin_eql]; exact congrArg (fun z => some (PV.bool z)) (natEq _ 1)⟩

theorem stepFrom_lt {set now : Nat} (hs : set < 2 ^ 9) : ∀ (ms : List Nat) (k nx : Nat), nx < 2 ^ 9 → stepFrom set now k ms nx < 2 ^ 9
  | [], _, _, h => h
  | m :: ms, k, nx, h => by
    rw [stepFrom]
    refine stepFrom_lt hs ms (k + 1) _ ?_
    split
    · exact Nat.or_lt_two_pow h (Nat.and_lt_two_pow m hs)
    · exact h

def joinsN (R C P S : Nat) : Bool := !decide (growN (masksN R C) S (sideN R C P false) &&& sideN R C P true = 0)

end Go.Proofs.Ytiflfnlpkhghpaa
