/- Texts of this seat, in their order, put together by program. -/
import Derived.Test.YtlfjjjhjjmikfaaDoorK8
set_option linter.unusedSimpArgs false
set_option linter.unusedVariables false
set_option linter.unusedSectionVars false
/- What chapter 3's functions tell of a position (moveL, playedL, winL, winCellsL, lineL), and what holds of them. No program text. -/
namespace Go.Proofs.YtlfjjjhjjmikfaaDoor
open Go Go.Ip G

def moveL (r c : Int) (xs : List Int) (k pl : Int) : Bool := posB r c xs && playerB pl && decide (0 ≤ k ∧ k < (xs.length : Int)) && decide (xs.getD k.toNat 0 = 0) && !joinsL r c xs 1 && !joinsL r c xs 2
def playedL (r c : Int) (xs : List Int) (k pl : Int) : List Int := if moveL r c xs k pl = true then xs.set k.toNat pl else []
def winL (r c : Int) (xs : List Int) (t : Int) : Int := if (posB r c xs && playerB t) = true then ((winN r.toNat c.toNat (setL xs 1) (setL xs 2) t.toNat : Nat) : Int) else 0
def winsB (r c : Int) (xs : List Int) (pl : Int) (k : Nat) : Bool := moveL r c xs (k : Int) pl && decide (winL r c (xs.set k pl) (3 - pl) = pl)
def winCellsL (r c : Int) (xs : List Int) (pl : Int) : List Int := ((List.range xs.length).filter (winsB r c xs pl)).map fun k : Nat => (k : Int)
def goB (r c : Int) (xs : List Int) : Bool := !decide (setL xs 0 = 0) && !joinsL r c xs 1 && !joinsL r c xs 2
def stepL (r c : Int) (xs : List Int) (t : Int) : Int := (winCellsL r c xs t).headD ((listN (setL xs 0)).headD 0)
def lineF (r c : Int) : Nat → List Int → Int → List Int
  | 0, _, _ => []
  | f + 1, xs, t => if goB r c xs = true then stepL r c xs t :: lineF r c f (xs.set (stepL r c xs t).toNat t) (3 - t) else []
def lineL (r c : Int) (xs : List Int) (t : Int) : List Int := if (posB r c xs && playerB t) = true then lineF r c xs.length xs t else []

/-! ### none -/
theorem playerB_of {P : Nat} (hP : P = 1 ∨ P = 2) : playerB (P : Int) = true := by rcases hP with rfl | rfl <;> rfl
theorem playerB_none {pl : Int} (h : 2 < pl) : playerB pl = false := by unfold playerB; exact decide_eq_false (by omega)
theorem moveL_none {r c : Int} {xs : List Int} {k pl : Int} (h : posB r c xs = false ∨ 2 < pl) : moveL r c xs k pl = false := by
  unfold moveL
  rcases h with h | h
  · rw [h]; rfl
  · rw [playerB_none h]; simp
theorem winL_none {r c : Int} {xs : List Int} {pl : Int} (h : posB r c xs = false ∨ 2 < pl) : winL r c xs pl = 0 := by
  unfold winL
  rw [if_neg]
  rcases h with h | h
  · rw [h]; simp
  · rw [playerB_none h]; simp
theorem winCellsL_none {r c : Int} {xs : List Int} {pl : Int} (h : posB r c xs = false ∨ 2 < pl) : winCellsL r c xs pl = [] := by
  unfold winCellsL
  rw [List.filter_eq_nil_iff.2 fun k _ => by unfold winsB; rw [moveL_none h]; simp]
  rfl
theorem lineL_none {r c : Int} {xs : List Int} {pl : Int} (h : posB r c xs = false ∨ 2 < pl) : lineL r c xs pl = [] := by
  unfold lineL
  rw [if_neg]
  rcases h with h | h
  · rw [h]; simp
  · rw [playerB_none h]; simp
theorem lineF_length (r c : Int) : ∀ (f : Nat) (xs : List Int) (t : Int), (lineF r c f xs t).length ≤ f
  | 0, _, _ => Nat.le_refl _
  | f + 1, xs, t => by
    rw [lineF]; split
    · have := lineF_length r c f (xs.set (stepL r c xs t).toNat t) (3 - t)
      rw [List.length_cons]; omega
    · exact Nat.zero_le _
theorem lineL_length (r c : Int) (xs : List Int) (t : Int) : (lineL r c xs t).length ≤ xs.length := by
  unfold lineL; split
  · exact lineF_length ..
  · exact Nat.zero_le _
theorem winCellsL_length (r c : Int) (xs : List Int) (t : Int) : (winCellsL r c xs t).length ≤ xs.length := by
  unfold winCellsL
  rw [List.length_map]
  have := List.length_filter_le (winsB r c xs t) (List.range xs.length)
  rw [List.length_range] at this; exact this
theorem playedL_length (r c : Int) (xs : List Int) (k t : Int) : (playedL r c xs k t).length ≤ xs.length := by
  unfold playedL; split
  · rw [List.length_set]; exact Nat.le_refl _
  · exact Nat.zero_le _

/-! ### sets -/
section
variable {R C : Nat} {xs : List Int} (hb : posB (R : Int) (C : Int) xs = true) (hS : Sides (R : Int) (C : Int) R C xs)
include hS
theorem pos_sets : Pos R C (setL xs 1) (setL xs 2) :=
  ⟨set_lt hS 1, set_lt hS 2, fun j h1 h2 => by
    rw [setL_bit] at h1 h2; rw [h1] at h2; exact absurd (Option.some.inj h2) (by decide)⟩
theorem free_bit {k : Nat} (hk : k < R * C) : (setL xs 1 ||| setL xs 2).testBit k = false ↔ xs[k]? = some 0 := by
  rw [Nat.testBit_or, Bool.or_eq_false_iff]
  have e1 : (setL xs 1).testBit k = false ↔ ¬ xs[k]? = some 1 := by rw [← setL_bit]; simp
  have e2 : (setL xs 2).testBit k = false ↔ ¬ xs[k]? = some 2 := by rw [← setL_bit]; simp
  rw [e1, e2]
  rcases content_cases hS hk with h | h | h <;> rw [h] <;> simp
omit hS
theorem set_putA {P k : Nat} (hP : P = 1 ∨ P = 2) (hk : xs[k]? = some 0) : setL (xs.set k (P : Int)) 1 = putA P k (setL xs 1) ∧ setL (xs.set k (P : Int)) 2 = putB P k (setL xs 2) := by
  have hkl : k < xs.length := (List.getElem?_eq_some_iff.1 hk).1
  rcases hP with rfl | rfl
  · refine ⟨Nat.eq_of_testBit_eq fun j => ?_, Nat.eq_of_testBit_eq fun j => ?_⟩
    · show _ = (setL xs 1 ||| (1 <<< k)).testBit j
      rw [with_bit, Bool.eq_iff_iff, Bool.or_eq_true, decide_eq_true_iff, setL_bit, setL_bit, List.getElem?_set]
      by_cases e : k = j
      · subst e; simp [hkl]
      · rw [if_neg e]; exact ⟨.inl, fun h => h.resolve_right fun h2 => e h2.symm⟩
    · show _ = (setL xs 2).testBit j
      rw [Bool.eq_iff_iff, setL_bit, setL_bit, List.getElem?_set]
      by_cases e : k = j
      · subst e; rw [hk]; simp [hkl]
      · rw [if_neg e]
  · refine ⟨Nat.eq_of_testBit_eq fun j => ?_, Nat.eq_of_testBit_eq fun j => ?_⟩
    · show _ = (setL xs 1).testBit j
      rw [Bool.eq_iff_iff, setL_bit, setL_bit, List.getElem?_set]
      by_cases e : k = j
      · subst e; rw [hk]; simp [hkl]
      · rw [if_neg e]
    · show _ = (setL xs 2 ||| (1 <<< k)).testBit j
      rw [with_bit, Bool.eq_iff_iff, Bool.or_eq_true, decide_eq_true_iff, setL_bit, setL_bit, List.getElem?_set]
      by_cases e : k = j
      · subst e; simp [hkl]
      · rw [if_neg e]; exact ⟨.inl, fun h => h.resolve_right fun h2 => e h2.symm⟩
include hb
theorem joins_one : joinsL (R : Int) (C : Int) xs 1 = joinsN R C 1 (setL xs 1) := joinsL_eq (P := 1) hb (.inl rfl)
theorem joins_two : joinsL (R : Int) (C : Int) xs 2 = joinsN R C 2 (setL xs 2) := joinsL_eq (P := 2) hb (.inr rfl)
theorem winL_eq {T : Nat} (hT : T = 1 ∨ T = 2) : winL (R : Int) (C : Int) xs (T : Int) = ((winN R C (setL xs 1) (setL xs 2) T : Nat) : Int) := by
  unfold winL; rw [hb, playerB_of hT]; rfl
theorem winL_set {P T k : Nat} (hP : P = 1 ∨ P = 2) (hT : T = 1 ∨ T = 2) (hk : xs[k]? = some 0) : winL (R : Int) (C : Int) (xs.set k (P : Int)) (T : Int) = ((winN R C (putA P k (setL xs 1)) (putB P k (setL xs 2)) T : Nat) : Int) := by
  rw [winL_eq (pos_set hb hP k) hT, (set_putA hP hk).1, (set_putA hP hk).2]
theorem winL_cases {T : Nat} (hT : T = 1 ∨ T = 2) : ∃ W : Nat, winL (R : Int) (C : Int) xs (T : Int) = (W : Int) ∧ (W = 1 ∨ W = 2) := ⟨_, winL_eq hb hT, win_cases hT⟩
include hS
theorem sides_set {P k : Nat} (hP : P = 1 ∨ P = 2) : Sides (R : Int) (C : Int) R C (xs.set k (P : Int)) := by
  have h2 := pos_set hb hP k
  obtain ⟨a1, a2, a3, a4, a5, a6, a7, a8, a9⟩ := hS
  refine ⟨a1, a2, a3, a4, a5, a6, a7, by rw [List.length_set]; exact a8, ?_⟩
  unfold posB at h2; rw [Bool.and_eq_true] at h2; exact h2.2
theorem free_some (h1 : joinsL (R : Int) (C : Int) xs 1 = false) (h2 : joinsL (R : Int) (C : Int) xs 2 = false) : ∃ k, k < xs.length ∧ xs[k]? = some 0 := by
  rw [joins_one hb] at h1; rw [joins_two hb] at h2
  obtain ⟨k, hk, hf⟩ := (pos_sets hS).free (board_of_sides hS) h1 h2
  have hlen : xs.length = R * C := hS.2.2.2.2.2.2.2.1
  exact ⟨k, by rw [hlen]; exact hk, (free_bit hS hk).1 hf⟩
theorem winL_done {P T : Nat} (hP : P = 1 ∨ P = 2) (hT : T = 1 ∨ T = 2) (hj : joinsL (R : Int) (C : Int) xs (P : Int) = true) : winL (R : Int) (C : Int) xs (T : Int) = (P : Int) := by
  rw [winL_eq hb hT]
  rcases hP with rfl | rfl
  · rw [win_first]; rw [← joins_one hb]; exact hj
  · rw [win_second (board_of_sides hS) (pos_sets hS)]; rw [← joins_two hb]; exact hj
theorem winL_open {T : Nat} (hT : T = 1 ∨ T = 2) (h1 : joinsL (R : Int) (C : Int) xs 1 = false) (h2 : joinsL (R : Int) (C : Int) xs 2 = false) : winL (R : Int) (C : Int) xs (T : Int) = (T : Int) ↔ ∃ k : Nat, xs[k]? = some 0 ∧ winL (R : Int) (C : Int) (xs.set k (T : Int)) (3 - (T : Int)) = (T : Int) := by
  have hlen : xs.length = R * C := hS.2.2.2.2.2.2.2.1
  have hT' : 3 - T = 1 ∨ 3 - T = 2 := by omega
  have e3 : (3 : Int) - (T : Int) = ((3 - T : Nat) : Int) := by omega
  rw [winL_eq hb hT, win_open (by rw [← joins_one hb]; exact h1) (by rw [← joins_two hb]; exact h2)]
  have : (((if moveB R C (setL xs 1) (setL xs 2) T = true then T else 3 - T : Nat) : Int) = (T : Int)) ↔ moveB R C (setL xs 1) (setL xs 2) T = true := by
    cases moveB R C (setL xs 1) (setL xs 2) T
    · simp only [Bool.false_eq_true, ↓reduceIte]; rcases hT with rfl | rfl <;> decide
    · simp only [↓reduceIte]
  rw [this, moveB_iff]
  constructor
  · rintro ⟨k, hk, hf, hw⟩
    have hk0 := (free_bit hS hk).1 hf
    exact ⟨k, hk0, by rw [e3, winL_set hb hT hT' hk0, hw]⟩
  · rintro ⟨k, hk0, hw⟩
    have hk : k < R * C := by rw [← hlen]; exact (List.getElem?_eq_some_iff.1 hk0).1
    rw [e3, winL_set hb hT hT' hk0] at hw
    exact ⟨k, hk, (free_bit hS hk).2 hk0, Int.ofNat_inj.1 hw⟩
/-- A stone more of who wins. -/
theorem winL_more {T W k : Nat} (hT : T = 1 ∨ T = 2) (hW : W = 1 ∨ W = 2) (hk : xs[k]? = some 0) (hw : winL (R : Int) (C : Int) xs (T : Int) = (W : Int)) : winL (R : Int) (C : Int) (xs.set k (W : Int)) (T : Int) = (W : Int) := by
  have hlen : xs.length = R * C := hS.2.2.2.2.2.2.2.1
  have hk' : k < R * C := by rw [← hlen]; exact (List.getElem?_eq_some_iff.1 hk).1
  have hf := (free_bit hS hk').2 hk
  have hB := board_of_sides hS
  have hp := pos_sets hS
  rw [winL_eq hb hT] at hw
  have hw' : winN R C (setL xs 1) (setL xs 2) T = W := by omega
  rw [winL_set hb hW hT hk]
  have hpp := hp.put (t := W) hk' hf
  rcases hW with rfl | rfl
  · rw [win_mono hB hp hpp (better_fr (n := 0)) hT hw']
  · rw [win_mono2 hB hpp hp ⟨fun _ h => h, fun j hj => by show (setL xs 2 ||| (1 <<< k)).testBit j = true; rw [with_bit, hj]; rfl⟩ hT hw']
theorem winL_first {T W : Nat} (hT : T = 1 ∨ T = 2) (hW : W = 1 ∨ W = 2) (hw : winL (R : Int) (C : Int) xs (T : Int) = (W : Int)) : winL (R : Int) (C : Int) xs (W : Int) = (W : Int) := by
  have hB := board_of_sides hS
  have hp := pos_sets hS
  rw [winL_eq hb hT] at hw
  have hw' : winN R C (setL xs 1) (setL xs 2) T = W := by omega
  rw [winL_eq hb hW]
  rcases hT with rfl | rfl <;> rcases hW with rfl | rfl
  · rw [hw']
  · rw [win_move2 hB hp hw']
  · rw [win_move hB hp hw']
  · rw [hw']
end

/-! ### turned, mirrored -/
theorem perm_turn (n : Nat) : Perm (fun k => n - 1 - k) n :=
  ⟨fun k hk => by show n - 1 - k < n; omega, fun i k hi hk (h : n - 1 - i = n - 1 - k) => by omega, fun j hj => ⟨n - 1 - j, by omega, by show n - 1 - (n - 1 - j) = j; omega⟩⟩
theorem perm_sig {R C : Nat} (hB : BoardOf R C) : Perm (sig C R) (R * C) := by
  obtain ⟨h1, h2, h3, h4, h9⟩ := hB
  have a : ∀ k, k < R * C → sig C R k < R * C ∧ sig R C (sig C R k) = k := fun k hk => by
    have := sig_lt h3 h4 h1 h2 (by rw [Nat.mul_comm]; exact h9) (by rw [Nat.mul_comm]; exact hk)
    rw [Nat.mul_comm C R] at this; exact this
  have b : ∀ k, k < R * C → sig R C k < R * C ∧ sig C R (sig R C k) = k := fun k hk => sig_lt h1 h2 h3 h4 h9 hk
  exact ⟨fun k hk => (a k hk).1, fun i k hi hk h => by rw [← (a i hi).2, ← (a k hk).2, h], fun j hj => ⟨sig R C j, (b j hj).1, (b j hj).2⟩⟩

theorem hex_moves {R C S : Nat} (hB : BoardOf R C) (hS : S < 2 ^ (R * C)) :
    joinsN R C 1 (moved (fun k => R * C - 1 - k) S (R * C)) = joinsN R C 1 S ∧ joinsN R C 2 (moved (fun k => R * C - 1 - k) S (R * C)) = joinsN R C 2 S ∧
    joinsN C R 2 (moved (sig C R) S (R * C)) = joinsN R C 1 S ∧ joinsN C R 1 (moved (sig C R) S (R * C)) = joinsN R C 2 S := by
  have := hex_ok hB hS
  unfold hexB at this
  simp only [Bool.and_eq_true, beq_iff_eq] at this
  exact ⟨this.1.1.1.2, this.1.1.2, this.1.2, this.2⟩

theorem board_swap {R C : Nat} (hB : BoardOf R C) : BoardOf C R := ⟨hB.2.2.1, hB.2.2.2.1, hB.1, hB.2.1, by rw [Nat.mul_comm]; exact hB.2.2.2.2⟩

section
variable {R C : Nat} {xs : List Int} (hb : posB (R : Int) (C : Int) xs = true) (hS : Sides (R : Int) (C : Int) R C xs)
include hb hS
theorem winL_turned {T : Nat} (hT : T = 1 ∨ T = 2) (hb' : posB (R : Int) (C : Int) xs.reverse = true) : winL (R : Int) (C : Int) xs.reverse (T : Int) = winL (R : Int) (C : Int) xs (T : Int) := by
  have hB := board_of_sides hS
  have hlen : xs.length = R * C := hS.2.2.2.2.2.2.2.1
  rw [winL_eq hb' hT, winL_eq hb hT, setL_reverse, setL_reverse, hlen]
  rw [winN_moved hB hB rfl (perm_turn (R * C)) (fun S h => (hex_moves hB h).1) (fun S h => (hex_moves hB h).2.1) _ _ _ T (Nat.le_refl _) (pos_sets hS)]
theorem winL_mirrored {T : Nat} (hT : T = 1 ∨ T = 2) (hb' : posB (C : Int) (R : Int) (mir R C xs) = true) : winL (C : Int) (R : Int) (mir R C xs) ((3 - T : Nat) : Int) = 3 - winL (R : Int) (C : Int) xs (T : Int) := by
  have hB := board_of_sides hS
  have hT' : 3 - T = 1 ∨ 3 - T = 2 := by omega
  have e1 : setL (mir R C xs) 1 = moved (sig C R) (setL xs 2) (R * C) := setL_mir hS 2
  have e2 : setL (mir R C xs) 2 = moved (sig C R) (setL xs 1) (R * C) := setL_mir hS 1
  rw [winL_eq hb' hT', winL_eq hb hT, e1, e2]
  rw [winN_swapped hB (Nat.mul_comm C R) (perm_sig hB) (fun S h => (hex_moves hB h).2.2.1) (fun S h => (hex_moves hB h).2.2.2) _ _ _ T (Nat.le_refl _) (pos_sets hS) hT]
  have := win_cases (R := R) (C := C) (a := setL xs 1) (b := setL xs 2) hT
  omega
end

/-! ### moves -/
theorem moveL_iff {r c : Int} {xs : List Int} {pl : Int} {k : Nat} : moveL r c xs (k : Int) pl = true ↔ posB r c xs = true ∧ playerB pl = true ∧ xs[k]? = some 0 ∧ joinsL r c xs 1 = false ∧ joinsL r c xs 2 = false := by
  unfold moveL
  simp only [Bool.and_eq_true, Bool.not_eq_true', decide_eq_true_eq]
  constructor
  · rintro ⟨⟨⟨⟨⟨h1, h2⟩, h3⟩, h4⟩, h5⟩, h6⟩
    have hk : k < xs.length := by omega
    refine ⟨h1, h2, ?_, h5, h6⟩
    rw [List.getElem?_eq_getElem hk]
    have : xs.getD k 0 = xs[k] := by rw [List.getD_eq_getElem?_getD, List.getElem?_eq_getElem hk]; rfl
    rw [← this]
    exact congrArg some h4
  · rintro ⟨h1, h2, h3, h5, h6⟩
    have hk : k < xs.length := (List.getElem?_eq_some_iff.1 h3).1
    refine ⟨⟨⟨⟨⟨h1, h2⟩, by omega⟩, ?_⟩, h5⟩, h6⟩
    show xs.getD k 0 = 0
    rw [List.getD_eq_getElem?_getD, h3]; rfl
theorem moveL_cell {r c : Int} {xs : List Int} {k pl : Int} (h : moveL r c xs k pl = true) : ∃ K : Nat, k = (K : Int) ∧ K < xs.length := by
  unfold moveL at h
  simp only [Bool.and_eq_true, decide_eq_true_eq] at h
  have := h.1.1.1.2
  obtain ⟨K, rfl⟩ := Int.eq_ofNat_of_zero_le this.1
  exact ⟨K, rfl, by omega⟩
theorem moveL_other {r c : Int} {xs : List Int} {k : Int} {P Q : Nat} (hP : P = 1 ∨ P = 2) (hQ : Q = 1 ∨ Q = 2) : moveL r c xs k (P : Int) = moveL r c xs k (Q : Int) := by
  unfold moveL; rw [playerB_of hP, playerB_of hQ]
theorem playedL_eq {r c : Int} {xs : List Int} {k : Nat} {pl : Int} (h : moveL r c xs (k : Int) pl = true) : playedL r c xs (k : Int) pl = xs.set k pl := by
  unfold playedL; rw [if_pos h]; rfl
/-- A stone of the other one joins nothing. -/
theorem joins_other_set {R C P : Nat} {xs : List Int} (hb : posB (R : Int) (C : Int) xs = true) (hP : P = 1 ∨ P = 2) {k : Nat} (hk : xs[k]? = some 0) : joinsL (R : Int) (C : Int) (xs.set k (P : Int)) ((3 - P : Nat) : Int) = joinsL (R : Int) (C : Int) xs ((3 - P : Nat) : Int) := by
  have hb2 := pos_set hb hP k
  have h := set_putA hP hk
  rcases hP with rfl | rfl
  · have e1 := joins_two hb2
    have e2 := joins_two hb
    rw [h.2] at e1
    exact e1.trans e2.symm
  · have e1 := joins_one hb2
    have e2 := joins_one hb
    rw [h.1] at e1
    exact e1.trans e2.symm

/-! ### winning cells -/
theorem winsB_iff {r c : Int} {xs : List Int} {pl : Int} {k : Nat} : winsB r c xs pl k = true ↔ moveL r c xs (k : Int) pl = true ∧ winL r c (xs.set k pl) (3 - pl) = pl := by
  unfold winsB; rw [Bool.and_eq_true, decide_eq_true_eq]
theorem winCells_mem {r c : Int} {xs : List Int} {pl : Int} {e : Int} : e ∈ winCellsL r c xs pl ↔ ∃ k : Nat, e = (k : Int) ∧ winsB r c xs pl k = true := by
  unfold winCellsL
  rw [List.mem_map]
  constructor
  · rintro ⟨k, hk, rfl⟩
    exact ⟨k, rfl, (List.mem_filter.1 hk).2⟩
  · rintro ⟨k, rfl, hk⟩
    refine ⟨k, List.mem_filter.2 ⟨List.mem_range.2 ?_, hk⟩, rfl⟩
    exact (List.getElem?_eq_some_iff.1 (moveL_iff.1 (winsB_iff.1 hk).1).2.2.1).1
theorem winCells_sorted (r c : Int) (xs : List Int) (pl : Int) : (winCellsL r c xs pl).Pairwise (· < ·) := by
  unfold winCellsL
  rw [List.pairwise_map]
  exact ((List.pairwise_lt_range).filter _).imp fun h => by omega
section
variable {R C : Nat} {xs : List Int} (hb : posB (R : Int) (C : Int) xs = true) (hS : Sides (R : Int) (C : Int) R C xs)
include hb hS
theorem winCells_some {P : Nat} (hP : P = 1 ∨ P = 2) (h1 : joinsL (R : Int) (C : Int) xs 1 = false) (h2 : joinsL (R : Int) (C : Int) xs 2 = false) : 0 < (winCellsL (R : Int) (C : Int) xs (P : Int)).length ↔ winL (R : Int) (C : Int) xs (P : Int) = (P : Int) := by
  rw [winL_open hb hS hP h1 h2, List.length_pos_iff_exists_mem]
  constructor
  · rintro ⟨e, he⟩
    obtain ⟨k, rfl, hk⟩ := winCells_mem.1 he
    have hk := winsB_iff.1 hk
    exact ⟨k, (moveL_iff.1 hk.1).2.2.1, hk.2⟩
  · rintro ⟨k, hk, hw⟩
    exact ⟨(k : Int), winCells_mem.2 ⟨k, rfl, winsB_iff.2 ⟨moveL_iff.2 ⟨hb, playerB_of hP, hk, h1, h2⟩, hw⟩⟩⟩
omit hb hS
theorem winCells_done {r c : Int} {pl : Int} (h : joinsL r c xs 1 = true ∨ joinsL r c xs 2 = true) : winCellsL r c xs pl = [] := by
  unfold winCellsL
  rw [List.filter_eq_nil_iff.2 fun k _ => ?_]
  · rfl
  · intro hw
    have := moveL_iff.1 (winsB_iff.1 hw).1
    rcases h with h | h
    · rw [h] at this; exact absurd this.2.2.2.1 (by decide)
    · rw [h] at this; exact absurd this.2.2.2.2 (by decide)
include hb hS
/-- With a stone more of the player the other winning cells stay. -/
theorem winCells_grow {P k0 k : Nat} (hP : P = 1 ∨ P = 2) (hk0 : xs[k0]? = some 0) (hj : joinsL (R : Int) (C : Int) (xs.set k0 (P : Int)) (P : Int) = false) (hk : winsB (R : Int) (C : Int) xs (P : Int) k = true) (hne : k ≠ k0) : winsB (R : Int) (C : Int) (xs.set k0 (P : Int)) (P : Int) k = true := by
  have hw := winsB_iff.1 hk
  have hm := moveL_iff.1 hw.1
  have hP' : 3 - P = 1 ∨ 3 - P = 2 := by omega
  have hb2 := pos_set hb hP k0
  have hS2 := sides_set hb hS (k := k0) hP
  have e3 : (3 : Int) - (P : Int) = ((3 - P : Nat) : Int) := by omega
  have hkk : (xs.set k0 (P : Int))[k]? = some 0 := by rw [List.getElem?_set_ne (by omega)]; exact hm.2.2.1
  have hk2 : (xs.set k (P : Int))[k0]? = some 0 := by rw [List.getElem?_set_ne (by omega)]; exact hk0
  refine winsB_iff.2 ⟨moveL_iff.2 ⟨hb2, playerB_of hP, hkk, ?_, ?_⟩, ?_⟩
  · rcases hP with rfl | rfl
    · exact hj
    · exact (joins_other_set hb (.inr rfl) hk0).trans hm.2.2.2.1
  · rcases hP with rfl | rfl
    · exact (joins_other_set hb (.inl rfl) hk0).trans hm.2.2.2.2
    · exact hj
  · rw [List.set_comm _ _ hne.symm]
    have hb3 := pos_set hb hP k
    have hS3 := sides_set hb hS (k := k) hP
    have := hw.2
    rw [e3] at this ⊢
    exact winL_more hb3 hS3 hP' hP hk2 this
end

/-! ### played on -/
theorem listN_some {S : Nat} (hS : S < 2 ^ 9) (h : S ≠ 0) : ∃ (k : Nat) (l : List Int), listN S = (k : Int) :: l ∧ S.testBit k = true := by
  cases e : listN S with
  | nil =>
    obtain ⟨j, hj⟩ : ∃ j, S.testBit j = true := by
      apply Classical.byContradiction
      intro hh
      refine h (Nat.eq_of_testBit_eq fun j => ?_)
      rw [Nat.zero_testBit]
      cases e : S.testBit j with
      | false => rfl
      | true => exact (hh ⟨j, e⟩).elim
    have := (listN_mem hS (j : Int)).2 ⟨j, rfl, hj⟩
    rw [e] at this; cases this
  | cons a l =>
    obtain ⟨j, rfl, hj⟩ := (listN_mem hS a).1 (by rw [e]; exact List.mem_cons_self ..)
    exact ⟨j, l, rfl, hj⟩
section
variable {R C : Nat} {xs : List Int} (hb : posB (R : Int) (C : Int) xs = true) (hS : Sides (R : Int) (C : Int) R C xs)
include hb hS
theorem goB_iff : goB (R : Int) (C : Int) xs = true ↔ joinsL (R : Int) (C : Int) xs 1 = false ∧ joinsL (R : Int) (C : Int) xs 2 = false := by
  unfold goB
  simp only [Bool.and_eq_true, Bool.not_eq_true', decide_eq_false_iff_not]
  constructor
  · exact fun h => ⟨h.1.2, h.2⟩
  · rintro ⟨h1, h2⟩
    refine ⟨⟨fun h0 => ?_, h1⟩, h2⟩
    obtain ⟨k, _, hk⟩ := free_some hb hS h1 h2
    have := setL_bit.2 hk
    rw [h0, Nat.zero_testBit] at this; cases this
/-- The move that is played: it may be made, and who wins wins still. -/
theorem stepL_ok {T W : Nat} (hT : T = 1 ∨ T = 2) (hW : W = 1 ∨ W = 2) (hg : goB (R : Int) (C : Int) xs = true) (hw : winL (R : Int) (C : Int) xs (T : Int) = (W : Int)) :
    ∃ k : Nat, stepL (R : Int) (C : Int) xs (T : Int) = (k : Int) ∧ moveL (R : Int) (C : Int) xs (k : Int) (T : Int) = true ∧ winL (R : Int) (C : Int) (xs.set k (T : Int)) (3 - (T : Int)) = (W : Int) := by
  obtain ⟨h1, h2⟩ := (goB_iff hb hS).1 hg
  have hT' : 3 - T = 1 ∨ 3 - T = 2 := by omega
  have e3 : (3 : Int) - (T : Int) = ((3 - T : Nat) : Int) := by omega
  unfold stepL
  cases e : winCellsL (R : Int) (C : Int) xs (T : Int) with
  | cons a l =>
    obtain ⟨k, rfl, hk⟩ := winCells_mem.1 (show a ∈ winCellsL (R : Int) (C : Int) xs (T : Int) by rw [e]; exact List.mem_cons_self ..)
    have hk := winsB_iff.1 hk
    have : winL (R : Int) (C : Int) xs (T : Int) = (T : Int) := (winCells_some hb hS hT h1 h2).1 (by rw [e]; simp)
    have hWT : W = T := by omega
    subst hWT
    exact ⟨k, rfl, hk.1, hk.2⟩
  | nil =>
    have hs0 : setL xs 0 ≠ 0 := by unfold goB at hg; simp only [Bool.and_eq_true, Bool.not_eq_true', decide_eq_false_iff_not] at hg; exact hg.1.1
    obtain ⟨k, l, hl, hk⟩ := listN_some (set_lt9 hS 0) hs0
    have hk0 := setL_bit.1 hk
    refine ⟨k, by rw [hl]; rfl, moveL_iff.2 ⟨hb, playerB_of hT, hk0, h1, h2⟩, ?_⟩
    have hno : ¬ winL (R : Int) (C : Int) xs (T : Int) = (T : Int) := fun hh => by
      have := (winCells_some hb hS hT h1 h2).2 hh
      rw [e] at this; exact absurd this (by decide)
    have hno2 : ¬ winL (R : Int) (C : Int) (xs.set k (T : Int)) (3 - (T : Int)) = (T : Int) := fun hh => hno ((winL_open hb hS hT h1 h2).2 ⟨k, hk0, hh⟩)
    have hb3 := pos_set hb hT k
    rw [e3] at hno2 ⊢
    obtain ⟨V, hV, hV2⟩ := winL_cases hb3 hT'
    rw [hV] at hno2 ⊢
    omega
end

/-- The position behind a list of moves. -/
def behindL : List Int → List Int → Int → List Int
  | xs, [], _ => xs
  | xs, k :: l, t => behindL (xs.set k.toNat t) l (3 - t)

/-- Each move may be made, and in the end who wins has joined. -/
theorem lineF_ok {R C W : Nat} (hW : W = 1 ∨ W = 2) : ∀ (f : Nat) (xs : List Int) (T : Nat), posB (R : Int) (C : Int) xs = true → Sides (R : Int) (C : Int) R C xs → (T = 1 ∨ T = 2) → pop (setL xs 0) ≤ f → winL (R : Int) (C : Int) xs (T : Int) = (W : Int) →
    joinsL (R : Int) (C : Int) (behindL xs (lineF (R : Int) (C : Int) f xs (T : Int)) (T : Int)) (W : Int) = true := by
  intro f
  induction f with
  | zero =>
    intro xs T hb hS hT hp hw
    have hz : setL xs 0 = 0 := by
      apply Nat.eq_of_testBit_eq
      intro j
      rw [Nat.zero_testBit]
      cases e : (setL xs 0).testBit j with
      | false => rfl
      | true => have := pop_without (set_lt9 hS 0) e; omega
    rw [lineF, behindL]
    cases e1 : joinsL (R : Int) (C : Int) xs 1 with
    | true =>
      have := winL_done hb hS (P := 1) (.inl rfl) hT e1
      have : W = 1 := by omega
      subst this; exact e1
    | false =>
      cases e2 : joinsL (R : Int) (C : Int) xs 2 with
      | true =>
        have := winL_done hb hS (P := 2) (.inr rfl) hT e2
        have : W = 2 := by omega
        subst this; exact e2
      | false =>
        obtain ⟨k, _, hk⟩ := free_some hb hS e1 e2
        have := setL_bit.2 hk
        rw [hz, Nat.zero_testBit] at this; cases this
  | succ f ih =>
    intro xs T hb hS hT hp hw
    rw [lineF]
    cases hg : goB (R : Int) (C : Int) xs with
    | false =>
      rw [if_neg (by decide), behindL]
      cases e1 : joinsL (R : Int) (C : Int) xs 1 with
      | true =>
        have := winL_done hb hS (P := 1) (.inl rfl) hT e1
        have : W = 1 := by omega
        subst this; exact e1
      | false =>
        cases e2 : joinsL (R : Int) (C : Int) xs 2 with
        | true =>
          have := winL_done hb hS (P := 2) (.inr rfl) hT e2
          have : W = 2 := by omega
          subst this; exact e2
        | false => rw [(goB_iff hb hS).2 ⟨e1, e2⟩] at hg; cases hg
    | true =>
      rw [if_pos rfl, behindL]
      obtain ⟨k, hk, hm, hv⟩ := stepL_ok hb hS hT hW hg hw
      have hT' : 3 - T = 1 ∨ 3 - T = 2 := by omega
      have e3 : (3 : Int) - (T : Int) = ((3 - T : Nat) : Int) := by omega
      have hk0 := (moveL_iff.1 hm).2.2.1
      rw [hk]
      rw [e3] at hv ⊢
      refine ih (xs.set k (T : Int)) (3 - T) (pos_set hb hT k) (sides_set hb hS hT) hT' ?_ hv
      have h0 := (set_more hS hT hk0).2.1
      rw [h0]
      have := pop_without (set_lt9 hS 0) (setL_bit.2 hk0)
      omega

end Go.Proofs.YtlfjjjhjjmikfaaDoor

/- The model's table of who wins: each position has a place of its own in it. No program text. -/
namespace Go.Proofs.YtlfjjjhjjmikfaaDoor
open Go Go.Ip G

/-- The place of a position, from its first k cells: the same number as the model reckons. -/
def keyF (a b : Nat) : Nat → Nat
  | 0 => 0
  | k + 1 => 3 * keyF a b k + (a >>> k % 2) + 2 * (b >>> k % 2)

theorem digit_le {R C a b : Nat} (h : Pos R C a b) (k : Nat) : a >>> k % 2 + 2 * (b >>> k % 2) ≤ 2 := by
  have h1 := bit_iff a k
  have h2 := bit_iff b k
  rcases Nat.mod_two_eq_zero_or_one (a >>> k) with e1 | e1 <;> rcases Nat.mod_two_eq_zero_or_one (b >>> k) with e2 | e2
  · omega
  · omega
  · omega
  · exact (h.2.2 k (h1.1 e1) (h2.1 e2)).elim
theorem key_lt {R C a b : Nat} (h : Pos R C a b) : ∀ k, keyF a b k < 3 ^ k
  | 0 => Nat.zero_lt_one
  | k + 1 => by
    have ih := key_lt h k
    have hd := digit_le h k
    rw [keyF, Nat.pow_succ]; omega
theorem key_inj {R C a b a' b' : Nat} (h : Pos R C a b) (h' : Pos R C a' b') : ∀ k, keyF a b k = keyF a' b' k → ∀ i, i < k → a.testBit i = a'.testBit i ∧ b.testBit i = b'.testBit i
  | 0, _, i, hi => by omega
  | k + 1, he, i, hi => by
    have hd := digit_le h k
    have hd' := digit_le h' k
    rw [keyF, keyF] at he
    have e1 : keyF a b k = keyF a' b' k := by omega
    have e2 : a >>> k % 2 = a' >>> k % 2 ∧ b >>> k % 2 = b' >>> k % 2 := by
      have := Nat.mod_two_eq_zero_or_one (a >>> k); have := Nat.mod_two_eq_zero_or_one (a' >>> k); omega
    by_cases hik : i = k
    · subst hik
      have t : ∀ x y : Nat, x >>> i % 2 = y >>> i % 2 → x.testBit i = y.testBit i := fun x y e => by
        rw [Bool.eq_iff_iff, ← bit_iff, ← bit_iff, e]
      exact ⟨t _ _ e2.1, t _ _ e2.2⟩
    · exact key_inj h h' k e1 i (by omega)
theorem key_pos {R C a b a' b' : Nat} (h : Pos R C a b) (h' : Pos R C a' b') (he : keyF a b (R * C) = keyF a' b' (R * C)) : a = a' ∧ b = b' := by
  have hk := key_inj h h' _ he
  have t : ∀ x y : Nat, x < 2 ^ (R * C) → y < 2 ^ (R * C) → (∀ i, i < R * C → x.testBit i = y.testBit i) → x = y := fun x y hx hy hxy => by
    apply Nat.eq_of_testBit_eq
    intro j
    by_cases hj : j < R * C
    · exact hxy j hj
    · have e1 : x.testBit j = false := Nat.testBit_lt_two_pow (Nat.lt_of_lt_of_le hx (Nat.pow_le_pow_right (by decide) (by omega)))
      have e2 : y.testBit j = false := Nat.testBit_lt_two_pow (Nat.lt_of_lt_of_le hy (Nat.pow_le_pow_right (by decide) (by omega)))
      rw [e1, e2]
  exact ⟨t _ _ h.1 h'.1 fun i hi => (hk i hi).1, t _ _ h.2.1 h'.2.1 fun i hi => (hk i hi).2⟩

theorem pow3_le {n : Nat} (h : n ≤ 9) : 3 ^ n ≤ 19683 := Nat.pow_le_pow_right (n := 3) (by decide) h

def keyN (R C a b t : Nat) : Nat := 2 * keyF a b (R * C) + (t - 1)
/-- What the table holds: nothing, or who wins. -/
def Inv (R C : Nat) (T : List Int) : Prop := T.length = 2 * 3 ^ (R * C) ∧ ∀ a b t, Pos R C a b → (t = 1 ∨ t = 2) → T[keyN R C a b t]? = some 0 ∨ T[keyN R C a b t]? = some ((winN R C a b t : Nat) : Int)

theorem keyN_lt {R C a b t : Nat} (h : Pos R C a b) (ht : t = 1 ∨ t = 2) : keyN R C a b t < 2 * 3 ^ (R * C) := by
  have := key_lt h (R * C); unfold keyN; omega
theorem Inv.new (R C : Nat) : Inv R C (List.replicate (2 * 3 ^ (R * C)) 0) := by
  refine ⟨List.length_replicate, fun a b t h ht => .inl ?_⟩
  rw [List.getElem?_replicate, if_pos (keyN_lt h ht)]
theorem Inv.put {R C a b t : Nat} {T : List Int} (hi : Inv R C T) (h : Pos R C a b) (ht : t = 1 ∨ t = 2) : Inv R C (T.set (keyN R C a b t) ((winN R C a b t : Nat) : Int)) := by
  refine ⟨by rw [List.length_set]; exact hi.1, fun a' b' t' h' ht' => ?_⟩
  rw [List.getElem?_set]
  by_cases e : keyN R C a b t = keyN R C a' b' t'
  · right
    rw [if_pos e, if_pos (by rw [hi.1]; exact keyN_lt h ht)]
    unfold keyN at e
    have e1 : keyF a b (R * C) = keyF a' b' (R * C) := by omega
    have e2 : t = t' := by omega
    obtain ⟨rfl, rfl⟩ := key_pos h h' e1
    rw [e2]
  · rw [if_neg e]; exact hi.2 a' b' t' h' ht'
theorem Inv.get {R C a b t : Nat} {T : List Int} (hi : Inv R C T) (h : Pos R C a b) (ht : t = 1 ∨ t = 2) : ∃ hl : keyN R C a b t < T.length, T[keyN R C a b t] = 0 ∨ T[keyN R C a b t] = ((winN R C a b t : Nat) : Int) := by
  have hl : keyN R C a b t < T.length := by rw [hi.1]; exact keyN_lt h ht
  refine ⟨hl, ?_⟩
  have := hi.2 a b t h ht
  rw [List.getElem?_eq_getElem hl] at this
  exact this.imp Option.some.inj Option.some.inj

/-- A winning move among the first k cells. -/
def moveTo (R C a b t k : Nat) : Bool := (List.range k).any fun k => !(a ||| b).testBit k && decide (winN R C (putA t k a) (putB t k b) (3 - t) = t)
theorem moveTo_succ (R C a b t k : Nat) : moveTo R C a b t (k + 1) = (moveTo R C a b t k || (!(a ||| b).testBit k && decide (winN R C (putA t k a) (putB t k b) (3 - t) = t))) := by
  unfold moveTo; rw [List.range_succ, List.any_append]; simp
theorem moveTo_mono {R C a b t k : Nat} (hk : k ≤ R * C) (h : moveTo R C a b t k = true) : moveB R C a b t = true := by
  unfold moveTo at h
  rw [List.any_eq_true] at h
  obtain ⟨x, hx, hh⟩ := h
  unfold moveB
  rw [List.any_eq_true]
  exact ⟨x, List.mem_range.2 (by have := List.mem_range.1 hx; omega), hh⟩
end Go.Proofs.YtlfjjjhjjmikfaaDoor

/- The model's chapter 3: what MoveOk, Played, WinnerOf, WinningCells and LinePlayed of it compute. -/
namespace Go.Proofs.YtlfjjjhjjmikfaaDoor
open Go Go.Ip G

variable (g : Nat → PV) (lf n : Nat)

theorem other_W (N : Nat) (hN : 1 ≤ N) (h : PHeap) {T : Nat} (hT : T = 1 ∨ T = 2) : CL g lf N fn_spec_l1Other [.int .i64 (T : Int)] h = some (.int .i64 ((3 - T : Nat) : Int), h) := by
  have := l1Other_N g lf N hN h (x := (T : Int)) (by rcases hT with rfl | rfl <;> rfl)
  rw [swap_player hT] at this; exact this

theorem specMoveOk_calls {xs : List Int} {p : PV} {h : PHeap} (N : Nat) (hN : 6 ≤ N) (r c k pl : Int) (hp : IntSl .i64 h p xs) (hl : xs.length ≤ 2 ^ 35) (hf : xs.length < lf) (hlf : 1000 < lf) :
    ∃ h', CL g lf N fn_spec_MoveOk [.int .i64 r, .int .i64 c, p, .int .i64 k, .int .i64 pl] h = some (.bool (moveL r c xs k pl), h') ∧ Keep h.length h h' := by
  obtain ⟨n, rfl⟩ : ∃ n, N = n + 1 := ⟨N - 1, by omega⟩
  have hpos := specPositionOk_N g lf n (by omega) r c hp (by omega) hf
  have hin1 : CL g lf n fn_spec_l1In [.int .i64 pl, .int .i64 1, .int .i64 2] h = some (.bool (playerB pl), h) := l1In_N g lf n (by omega) h pl 1 2
  have : W (CL g lf (n + 1) fn_spec_MoveOk [.int .i64 r, .int .i64 c, p, .int .i64 k, .int .i64 pl] h) fun v h' => v = .bool (moveL r c xs k pl) ∧ Keep h.length h h' := by
    rw [spec_MoveOk.call_eq]
    unfold spec_MoveOk.main
    simp only [env_C, env_pick, env_load, env_bin, env_un, env_indexAddr, env_len]
    unfold moveL
    cases hb : posB r c xs with
    | false =>
      rw [hb] at hpos
      repeat (first | with_reducible refine wT ?_ | with_reducible refine wg0 rfl ?_ | with_reducible refine wpT ?_ | with_reducible refine wnF ?_ | with_reducible refine wsm ?_ | with_reducible refine wrB ?_ | with_reducible refine wbd (by assumption) ?_ | dsimp only)
      exact W.ret ⟨rfl, Keep.refl _ _⟩
    | true =>
      rw [hb] at hpos
      cases hpl : playerB pl with
      | false =>
        rw [hpl] at hin1
        repeat (first | with_reducible refine wT ?_ | with_reducible refine wg1 rfl ?_ | with_reducible refine wg0 rfl ?_ | with_reducible refine wpT ?_ | with_reducible refine wpF ?_ | with_reducible refine wnT ?_ | with_reducible refine wnF ?_ | with_reducible refine wpv ?_ | with_reducible refine wsm ?_ | with_reducible refine wrB ?_ | with_reducible refine wbd (by assumption) ?_ | dsimp only)
        exact W.ret ⟨rfl, Keep.refl _ _⟩
      | true =>
        rw [hpl] at hin1
        obtain ⟨R, C, hS⟩ := sides_of hb
        have hlen : xs.length = R * C := hS.2.2.2.2.2.2.2.1
        have hpos1 : 1 ≤ xs.length := by rw [hlen]; exact Nat.mul_pos hS.2.2.1 hS.2.2.2.2.1
        have hin2 : CL g lf n fn_spec_l1In [.int .i64 k, .int .i64 0, .int .i64 ((xs.length - 1 : Nat) : Int)] h = some (.bool (decide (0 ≤ k ∧ k ≤ ((xs.length - 1 : Nat) : Int))), h) := l1In_N g lf n (by omega) h k 0 _
        have hce : decide (0 ≤ k ∧ k ≤ ((xs.length - 1 : Nat) : Int)) = decide (0 ≤ k ∧ k < (xs.length : Int)) := decide_eq_decide.2 (by omega)
        rw [hce] at hin2
        cases hk : decide (0 ≤ k ∧ k < (xs.length : Int)) with
        | false =>
          rw [hk] at hin2
          repeat (first | with_reducible refine wT ?_ | with_reducible refine wg1 rfl ?_ | with_reducible refine wpF ?_ | with_reducible refine wnT ?_ | with_reducible refine wnF ?_ | with_reducible refine wpv ?_ | with_reducible refine wsm ?_ | with_reducible refine wrB ?_ | with_reducible refine wbd (by assumption) ?_ | with_reducible refine wlen (by assumption) ?_ | with_reducible refine wsub1 (by omega) (by omega) ?_ | dsimp only)
          exact W.ret ⟨rfl, Keep.refl _ _⟩
        | true =>
          rw [hk] at hin2
          have hkb := of_decide_eq_true hk
          obtain ⟨K, rfl⟩ := Int.eq_ofNat_of_zero_le hkb.1
          have hK : K < xs.length := by omega
          have hgd : xs.getD (K : Int).toNat 0 = xs[K] := by
            rw [show ((K : Int).toNat) = K from rfl, List.getD_eq_getElem?_getD, List.getElem?_eq_getElem hK]; rfl
          rw [hgd]
          obtain ⟨h1, e1, k1⟩ := specJoins_calls g lf n (by omega) r c 1 hp (by omega) hf hlf
          obtain ⟨h2, e2, k2⟩ := specJoins_calls g lf n (by omega) r c 2 (hp.keep k1) (by omega) hf hlf
          repeat (first | with_reducible refine wF ?_ | with_reducible refine wg1 rfl ?_ | with_reducible refine wpF ?_ | with_reducible refine wnT ?_ | with_reducible refine wpv ?_ | with_reducible refine wsm ?_ | with_reducible refine wbd (by assumption) ?_ | with_reducible refine wlen (by assumption) ?_ | (with_reducible refine wat hp hK fun a hl => ?_) | with_reducible refine wsub1 (by omega) (by omega) ?_ | dsimp only)
          refine weql (fun e => ?_) (fun e => ?_)
          · rw [decide_eq_true e]
            cases hj1 : joinsL r c xs 1 with
            | true =>
              rw [hj1] at e1
              repeat (first | with_reducible refine wg1 rfl ?_ | with_reducible refine wg0 rfl ?_ | with_reducible refine wpT ?_ | with_reducible refine wpF ?_ | with_reducible refine wnT ?_ | with_reducible refine wpv ?_ | with_reducible refine wsm ?_ | with_reducible refine wrB ?_ | with_reducible refine wbd (by assumption) ?_ | dsimp only)
              exact W.ret ⟨by simp, k1⟩
            | false =>
              rw [hj1] at e1
              cases hj2 : joinsL r c xs 2 with
              | true =>
                rw [hj2] at e2
                repeat (first | with_reducible refine wg1 rfl ?_ | with_reducible refine wpT ?_ | with_reducible refine wnT ?_ | with_reducible refine wnF ?_ | with_reducible refine wpv ?_ | with_reducible refine wsm ?_ | with_reducible refine wrB ?_ | with_reducible refine wbd (by assumption) ?_ | dsimp only)
                exact W.ret ⟨by simp, k1.trans (k2.mono k1.1)⟩
              | false =>
                rw [hj2] at e2
                repeat (first | with_reducible refine wg1 rfl ?_ | with_reducible refine wpT ?_ | with_reducible refine wnF ?_ | with_reducible refine wpv ?_ | with_reducible refine wsm ?_ | with_reducible refine wrB ?_ | with_reducible refine wbd (by assumption) ?_ | dsimp only)
                exact W.ret ⟨by simp, k1.trans (k2.mono k1.1)⟩
          · rw [decide_eq_false e]
            repeat (first | with_reducible refine wg0 rfl ?_ | with_reducible refine wpF ?_ | with_reducible refine wsm ?_ | with_reducible refine wrB ?_ | dsimp only)
            exact W.ret ⟨by simp, Keep.refl _ _⟩
  obtain ⟨_, h', e, rfl, k⟩ := this
  exact ⟨h', e, k⟩

theorem specPlayed_calls {xs : List Int} {p : PV} {h : PHeap} (N : Nat) (hN : 7 ≤ N) (r c k pl : Int) (hp : IntSl .i64 h p xs) (hl : xs.length ≤ 2 ^ 35) (hf : xs.length < lf) (hlf : 1000 < lf) :
    ∃ q h', CL g lf N fn_spec_Played [.int .i64 r, .int .i64 c, p, .int .i64 k, .int .i64 pl] h = some (.tup [q, .bool (moveL r c xs k pl)], h') ∧ OwnSl h.length h' q (playedL r c xs k pl) ∧ Keep h.length h h' := by
  obtain ⟨n, rfl⟩ : ∃ n, N = n + 1 := ⟨N - 1, by omega⟩
  obtain ⟨h1, e1, k1⟩ := specMoveOk_calls g lf n (by omega) r c k pl hp hl hf hlf
  have : W (CL g lf (n + 1) fn_spec_Played [.int .i64 r, .int .i64 c, p, .int .i64 k, .int .i64 pl] h) fun v h' => ∃ q, v = .tup [q, .bool (moveL r c xs k pl)] ∧ OwnSl h.length h' q (playedL r c xs k pl) ∧ Keep h.length h h' := by
    rw [spec_Played.call_eq]
    unfold spec_Played.main
    simp only [env_C, env_buildSlice, env_store, env_un, env_indexAddr, env_append]
    unfold playedL
    cases hm : moveL r c xs k pl with
    | false =>
      rw [hm] at e1
      repeat (first | with_reducible refine wT ?_ | with_reducible refine wnF ?_ | with_reducible refine wrB ?_ | with_reducible refine wbd (by assumption) ?_ | (refine wempty fun q h2 o2 k2 => ?_) | with_reducible refine wresO (by assumption) ?_ | dsimp only)
      skip
      exact W.ret ⟨_, rfl, o2.mono k1.1, k1.trans (k2.mono k1.1)⟩
    | true =>
      rw [hm] at e1
      obtain ⟨K, rfl, hK⟩ := moveL_cell hm
      obtain ⟨v, q, h2, e2, e3, o2, k2⟩ := copy_all (hp.keep k1) (by omega) (by omega)
      repeat (first | with_reducible refine wF ?_ | with_reducible refine wnT ?_ | with_reducible refine wrB ?_ | with_reducible refine wbd (by assumption) ?_ | (refine wst o2 hK fun h3 o3 k3 l3 a e4 => ?_) | with_reducible refine wresO (by assumption) ?_ | dsimp only | simp only [env_C, env_g, env_lf, env_pick, env_alloc, env_box, env_build, env_buildSlice, env_load, env_store, env_ptr, env_bin, env_un, env_conv, env_make, env_slice, env_fieldAddr, env_field, env_indexAddr, env_index, env_extract, env_len, env_append, env_max, env_min, env_makeMap, env_lookup, env_update])
      skip
      exact W.ret ⟨_, rfl, o3.mono k1.1, k1.trans ((k2.trans k3).mono k1.1)⟩
  obtain ⟨_, h', e, q, rfl, o, k⟩ := this
  exact ⟨q, h', e, o, k⟩

/-! ### the solver -/
theorem solve_W {R C : Nat} (hB : BoardOf R C) (hlf : 1000 < lf) : ∀ (m a b t N : Nat) (T : List Int) (p pm : PV) (h : PHeap) (b0 : Nat), frN (R * C) a b ≤ m → Pos R C a b → (t = 1 ∨ t = 2) → m + 5 ≤ N → Fix b0 h pm (ints (masksN R C)) → OwnSl b0 h p T → b0 ≤ h.length → Inv R C T →
    W (CL g lf N fn_spec_l3Solve [.int .i64 (R : Int), .int .i64 (C : Int), pm, .int .i64 (a : Int), .int .i64 (b : Int), .int .i64 (t : Int), p] h) fun v h' => v = .int .i64 ((winN R C a b t : Nat) : Int) ∧ ∃ T', OwnSl b0 h' p T' ∧ Inv R C T' ∧ Keep b0 h h' := by
  intro m
  induction m using Nat.strongRecOn with
  | _ m ih =>
  intro a b t N T p pm h b0 hm hp ht hN hpm ho hb0 hi
  obtain ⟨n, rfl⟩ : ∃ n, N = n + 1 := ⟨N - 1, by omega⟩
  have h9 := hB.2.2.2.2
  have l9 := hp.lt9 hB
  have hml : (ints (masksN R C)).length = R * C := by rw [ints_length, masksN_length]
  have e1 := l2Joins_calls g lf hB (P := 1) (.inl rfl) hpm.now l9.1 n (by omega) hlf
  have e2 := l2Joins_calls g lf hB (P := 2) (.inr rfl) hpm.now l9.2 n (by omega) hlf
  rw [spec_l3Solve.call_eq]
  unfold spec_l3Solve.main
  simp only [env_C, env_lf]
  cases j1 : joinsN R C 1 a with
  | true =>
    rw [j1] at e1
    refine wbd e1 ?_
    repeat (first | with_reducible refine wT ?_ | with_reducible refine wrI ?_ | dsimp only)
    exact W.ret ⟨by rw [win_first j1]; rfl, T, ho, hi, Keep.refl _ _⟩
  | false =>
  rw [j1] at e1
  refine wbd e1 ?_
  cases j2 : joinsN R C 2 b with
  | true =>
    rw [j2] at e2
    repeat (first | with_reducible refine wT ?_ | with_reducible refine wF ?_ | with_reducible refine wrI ?_ | (refine wbd e2 ?_) | dsimp only)
    skip
    exact W.ret ⟨by rw [win_second hB hp j2]; rfl, T, ho, hi, Keep.refl _ _⟩
  | false =>
  rw [j2] at e2
  repeat (first | with_reducible refine wF ?_ | (refine wbd e2 ?_) | dsimp only)
  skip
  -- the key
  refine loopW (fun m s => ∃ (k : Nat) (key : Int), s = spec_l3Solve.st0 (.int .i64 (R : Int)) (.int .i64 (C : Int)) pm (.int .i64 (a : Int)) (.int .i64 (b : Int)) (.int .i64 (t : Int)) p (.int .i64 key) (.int .i64 (k : Int)) h ∧ k + m = R * C ∧ key = (keyF a b k : Int)) ?_ lf (R * C) _ (by omega) ⟨0, 0, rfl, by omega, rfl⟩
  rintro n1 m1 s ⟨k, key, rfl, hkm, hkey⟩ next
  have hk3 := key_lt hp k
  have hp3 := pow3_le (show k ≤ 9 by omega)
  rw [spec_l3Solve.body0_eq]
  unfold spec_l3Solve.body0
  simp only [env_bin, env_len]
  cases m1 with
  | succ m1 =>
    repeat (first | with_reducible refine wT ?_ | with_reducible refine wlen (Fix.now (by assumption)) ?_ | with_reducible refine wadd1 (by omega) ?_ | with_reducible refine wrem2 ?_ | with_reducible refine wshr (by omega) ?_ | with_reducible refine wlssT (by omega) ?_ | with_reducible refine wadd (by omega) ?_ | with_reducible refine wmul (by omega) ?_)
    refine next _ _ (Nat.lt_succ_self m1) ⟨k + 1, _, rfl, by omega, ?_⟩
    rw [keyF]; omega
  | zero =>
    have hkR : k = R * C := by omega
    subst hkR
    repeat (first | with_reducible refine wF ?_ | with_reducible refine wlen (Fix.now (by assumption)) ?_ | with_reducible refine wlssF (by omega) ?_ | with_reducible refine wadd (by omega) ?_ | with_reducible refine wsub (by omega) ?_ | with_reducible refine wmul (by omega) ?_ | rw [kLoop_exit] | rw [spec_l3Solve.after0_se0_0_1_2_3_4_5_6_15_16_33] | simp only [env_C, env_g, env_lf, env_pick, env_alloc, env_box, env_build, env_buildSlice, env_load, env_store, env_ptr, env_bin, env_un, env_conv, env_make, env_slice, env_fieldAddr, env_field, env_indexAddr, env_index, env_extract, env_len, env_append, env_max, env_min, env_makeMap, env_lookup, env_update])
    have hkn : 2 * key + (t : Int) - 1 = ((keyN R C a b t : Nat) : Int) := by unfold keyN; omega
    rw [hkn]
    obtain ⟨hl, hT⟩ := hi.get hp ht
    refine wat ho.int hl fun ad had => ?_
    refine wbd had ?_
    have hwc := win_cases (R := R) (C := C) (a := a) (b := b) ht
    refine wgtr (fun e => ?_) (fun e => ?_)
    · have hT' : T[keyN R C a b t] = ((winN R C a b t : Nat) : Int) := by
        rcases hT with h0 | h0
        · omega
        · exact h0
      repeat (first | with_reducible refine wT ?_)
      refine wat ho.int hl fun ad had => ?_
      refine wbd had ?_
      rw [hT']
      repeat (first | with_reducible refine wrI ?_)
      exact W.ret ⟨rfl, T, ho, hi, Keep.refl _ _⟩
    · have e3 := other_W g lf n (by omega) h ht
      repeat (first | with_reducible refine wF ?_ | with_reducible refine wbd (by assumption) ?_ | dsimp only)
      obtain ⟨KEY, hKEY⟩ : ∃ x, x = keyN R C a b t := ⟨_, rfl⟩
      have hwo := win_open (t := t) j1 j2
      have fin : ∀ (bst : Int) (k : Nat) (x : PV) (T2 : List Int) (h2 : PHeap), bst = ((winN R C a b t : Nat) : Int) → OwnSl b0 h2 p T2 → Inv R C T2 → Keep b0 h h2 →
          W (spec_l3Solve.K1 (env g lf n) (kTop Tryd.prog Tryd.f61) (.exit 2) (spec_l3Solve.se2_0_1_2_3_4_5_6_15_17_18_73 (.int .i64 (R : Int)) (.int .i64 (C : Int)) pm (.int .i64 (a : Int)) (.int .i64 (b : Int)) (.int .i64 (t : Int)) p (.int .i64 (KEY : Int)) (.int .i64 bst) (.int .i64 (k : Int)) x h2))
            fun v h' => v = .int .i64 ((winN R C a b t : Nat) : Int) ∧ ∃ T', OwnSl b0 h' p T' ∧ Inv R C T' ∧ Keep b0 h h' := by
        intro bst k x T2 h2 hbst o2 i2 k2
        rw [spec_l3Solve.after1_se2_0_1_2_3_4_5_6_15_17_18_73]
        simp only [env_indexAddr, env_store]
        obtain ⟨hl2, _⟩ := i2.get hp ht
        rw [← hKEY] at hl2
        refine wst o2 hl2 fun h3 o3 k3 l3 a3 e4 => ?_
        repeat (first | with_reducible refine wrI ?_)
        rw [hbst] at o3 ⊢
        rw [hKEY] at o3
        exact W.ret ⟨rfl, _, o3, i2.put hp ht, k2.trans k3⟩
      rw [← hKEY]
      refine loopW (fun m s => ∃ (k : Nat) (bst : Int) (T2 : List Int) (h2 : PHeap), s = spec_l3Solve.st1 (.int .i64 (R : Int)) (.int .i64 (C : Int)) pm (.int .i64 (a : Int)) (.int .i64 (b : Int)) (.int .i64 (t : Int)) p (.int .i64 (KEY : Int)) (.int .i64 bst) (.int .i64 (k : Int)) h2 ∧ k + m = R * C ∧
        ((bst = ((3 - t : Nat) : Int) ∧ moveTo R C a b t k = false) ∨ (bst = (t : Int) ∧ moveB R C a b t = true)) ∧ OwnSl b0 h2 p T2 ∧ Inv R C T2 ∧ Keep b0 h h2) ?_ lf (R * C) _ (by omega) ⟨0, _, T, h, rfl, by omega, .inl ⟨rfl, rfl⟩, ho, hi, Keep.refl _ _⟩
      rintro n2 m2 s ⟨k, bst, T2, h2, rfl, hkm2, hbst, o2, i2, k2⟩ next2
      have hpm2 := hpm.keep k2
      rw [spec_l3Solve.body1_eq]
      unfold spec_l3Solve.body1
      simp only [env_C, env_pick, env_bin, env_len]
      rcases hbst with ⟨hb1, hb2⟩ | ⟨hb1, hb2⟩
      · cases m2 with
        | zero =>
          repeat (first | with_reducible refine wF ?_ | with_reducible refine wg0 rfl ?_ | with_reducible refine wpF ?_ | with_reducible refine wsm ?_ | with_reducible refine wlen (Fix.now (by assumption)) ?_ | with_reducible refine wlssF (by omega) ?_ | rw [kLoop_exit] | dsimp only)
          refine fin bst k _ T2 h2 ?_ o2 i2 k2
          have hkR : k = R * C := by omega
          subst hkR
          have : moveB R C a b t = false := hb2
          rw [hwo, this, hb1]; rfl
        | succ m2 =>
          have hkl : k < R * C := by omega
          have hne : ¬ bst = (t : Int) := by omega
          have hor : a ||| b < 2 ^ 9 := Nat.or_lt_two_pow l9.1 l9.2
          have hsl := shl_lt (show k < 9 by omega)
          have hto := moveTo_succ R C a b t k
          rw [hb2, Bool.false_or] at hto
          repeat (first | with_reducible refine wT ?_ | with_reducible refine wg1 rfl ?_ | with_reducible refine wpT ?_ | with_reducible refine wpv ?_ | with_reducible refine wsm ?_ | with_reducible refine wlen (Fix.now (by assumption)) ?_ | with_reducible refine wrem2 ?_ | with_reducible refine wshr (by omega) ?_ | with_reducible refine wor (by omega) (by omega) ?_ | with_reducible refine wlssT (by omega) ?_ | with_reducible refine wneqT (by omega) ?_ | dsimp only)
          refine weql (fun e => ?_) (fun e => ?_)
          · have hbit := (bit_iff (a ||| b) k).1 (by omega)
            rw [hbit] at hto
            repeat (first | with_reducible refine wT ?_ | with_reducible refine wadd1 (by omega) ?_)
            exact next2 _ _ (Nat.lt_succ_self m2) ⟨k + 1, bst, T2, h2, rfl, by omega, .inl ⟨hb1, hto⟩, o2, i2, k2⟩
          · have hbit : (a ||| b).testBit k = false := by
              cases e2 : (a ||| b).testBit k with
              | false => rfl
              | true => exact (e (by rw [(bit_iff (a ||| b) k).2 e2]; rfl)).elim
            have hfr := fr_put (t := t) hkl hbit
            have hpp := hp.put (t := t) hkl hbit
            rw [hbit, Bool.not_false, Bool.true_and] at hto
            have hor2 : a ||| 1 <<< k < 2 ^ 9 := Nat.or_lt_two_pow l9.1 hsl
            have hor3 : b ||| 1 <<< k < 2 ^ 9 := Nat.or_lt_two_pow l9.2 hsl
            rcases ht with rfl | rfl
            · repeat (first | with_reducible refine wT ?_ | with_reducible refine wF ?_ | with_reducible refine wshl (by omega) ?_ | with_reducible refine wor (by omega) (by omega) ?_ | with_reducible refine weqlT (by omega) ?_)
              refine wcall (ih (m - 1) (by omega) (a ||| 1 <<< k) b 2 n T2 p pm h2 b0 (Nat.le_sub_one_of_lt (Nat.lt_of_lt_of_le hfr hm)) hpp (.inr rfl) (by omega) hpm2 o2 (Nat.le_trans hb0 k2.1) i2) fun v h3 ⟨hv, T3, o3, i3, k3⟩ => ?_
              subst hv
              refine weql (fun e => ?_) (fun e => ?_)
              · repeat (first | with_reducible refine wT ?_ | with_reducible refine wadd1 (by omega) ?_ | dsimp only)
                have hw : winN R C (putA 1 k a) (putB 1 k b) (3 - 1) = 1 := Int.ofNat_inj.1 e
                rw [decide_eq_true hw] at hto
                exact next2 _ _ (Nat.lt_succ_self m2) ⟨k + 1, _, T3, h3, rfl, by omega, .inr ⟨rfl, moveTo_mono (by omega) hto⟩, o3, i3, k2.trans k3⟩
              · repeat (first | with_reducible refine wF ?_ | with_reducible refine wadd1 (by omega) ?_ | dsimp only)
                have hw : ¬ winN R C (putA 1 k a) (putB 1 k b) (3 - 1) = 1 := fun hh => e (congrArg Int.ofNat hh)
                rw [decide_eq_false hw] at hto
                exact next2 _ _ (Nat.lt_succ_self m2) ⟨k + 1, bst, T3, h3, rfl, by omega, .inl ⟨hb1, hto⟩, o3, i3, k2.trans k3⟩
            · repeat (first | with_reducible refine wF ?_ | with_reducible refine wshl (by omega) ?_ | with_reducible refine wor (by omega) (by omega) ?_ | with_reducible refine weqlF (by omega) ?_)
              refine wcall (ih (m - 1) (by omega) a (b ||| 1 <<< k) 1 n T2 p pm h2 b0 (Nat.le_sub_one_of_lt (Nat.lt_of_lt_of_le hfr hm)) hpp (.inl rfl) (by omega) hpm2 o2 (Nat.le_trans hb0 k2.1) i2) fun v h3 ⟨hv, T3, o3, i3, k3⟩ => ?_
              subst hv
              refine weql (fun e => ?_) (fun e => ?_)
              · repeat (first | with_reducible refine wT ?_ | with_reducible refine wadd1 (by omega) ?_ | dsimp only)
                have hw : winN R C (putA 2 k a) (putB 2 k b) (3 - 2) = 2 := Int.ofNat_inj.1 e
                rw [decide_eq_true hw] at hto
                exact next2 _ _ (Nat.lt_succ_self m2) ⟨k + 1, _, T3, h3, rfl, by omega, .inr ⟨rfl, moveTo_mono (by omega) hto⟩, o3, i3, k2.trans k3⟩
              · repeat (first | with_reducible refine wF ?_ | with_reducible refine wadd1 (by omega) ?_ | dsimp only)
                have hw : ¬ winN R C (putA 2 k a) (putB 2 k b) (3 - 2) = 2 := fun hh => e (congrArg Int.ofNat hh)
                rw [decide_eq_false hw] at hto
                exact next2 _ _ (Nat.lt_succ_self m2) ⟨k + 1, bst, T3, h3, rfl, by omega, .inl ⟨hb1, hto⟩, o3, i3, k2.trans k3⟩
      · have hfin : bst = ((winN R C a b t : Nat) : Int) := by rw [hwo, hb2, hb1]; rfl
        by_cases hkl : k < R * C
        · repeat (first | with_reducible refine wF ?_ | with_reducible refine wg1 rfl ?_ | with_reducible refine wpT ?_ | with_reducible refine wpv ?_ | with_reducible refine wsm ?_ | with_reducible refine wlen (Fix.now (by assumption)) ?_ | with_reducible refine wlssT (by omega) ?_ | with_reducible refine wneqF (by omega) ?_ | rw [kLoop_exit] | dsimp only)
          exact fin bst k _ T2 h2 hfin o2 i2 k2
        · repeat (first | with_reducible refine wF ?_ | with_reducible refine wg0 rfl ?_ | with_reducible refine wpF ?_ | with_reducible refine wsm ?_ | with_reducible refine wlen (Fix.now (by assumption)) ?_ | with_reducible refine wlssF (by omega) ?_ | rw [kLoop_exit] | dsimp only)
          exact fin bst k _ T2 h2 hfin o2 i2 k2

theorem table_W {R C : Nat} (hB : BoardOf R C) (hlf : 1000 < lf) (N : Nat) (hN : 1 ≤ N) (h : PHeap) :
    W (CL g lf N fn_spec_l3Table [.int .i64 ((R * C : Nat) : Int)] h) fun v h' => ∃ T, OwnSl h.length h' v T ∧ Inv R C T ∧ Keep h.length h h' := by
  obtain ⟨n, rfl⟩ : ∃ n, N = n + 1 := ⟨N - 1, by omega⟩
  have h9 := hB.2.2.2.2
  rw [spec_l3Table.call_eq]
  unfold spec_l3Table.main
  simp only [env_lf]
  refine loopW (fun m s => ∃ (k V : Nat), s = spec_l3Table.st0 (.int .i64 ((R * C : Nat) : Int)) (.int .i64 (V : Int)) (.int .i64 (k : Int)) h ∧ k + m = R * C ∧ V = 2 * 3 ^ k) ?_ lf (R * C) _ (by omega) ⟨0, 2, rfl, by omega, rfl⟩
  rintro n1 m1 s ⟨k, V, rfl, hkm, hV⟩ next
  have hp3 := pow3_le (show k ≤ 9 by omega)
  rw [spec_l3Table.body0_eq]
  unfold spec_l3Table.body0
  simp only [env_bin]
  cases m1 with
  | succ m1 =>
    repeat (first | with_reducible refine wT ?_ | with_reducible refine wadd1 (by omega) ?_ | with_reducible refine wlssT (by omega) ?_ | with_reducible refine wmul (by omega) ?_)
    refine next _ _ (Nat.lt_succ_self m1) ⟨k + 1, V * 3, rfl, by omega, by rw [Nat.pow_succ]; omega⟩
  | zero =>
    have hkR : k = R * C := by omega
    subst hkR
    subst hV
    repeat (first | with_reducible refine wF ?_ | with_reducible refine wlssF (by omega) ?_ | rw [kLoop_exit] | rw [spec_l3Table.after0_se0_0_3_4_7] | simp only [env_C, env_g, env_lf, env_pick, env_alloc, env_box, env_build, env_buildSlice, env_load, env_store, env_ptr, env_bin, env_un, env_conv, env_make, env_slice, env_fieldAddr, env_field, env_indexAddr, env_index, env_extract, env_len, env_append, env_max, env_min, env_makeMap, env_lookup, env_update])
    refine wmake (by omega) fun p h1 o1 k1 => ?_
    repeat (first | with_reducible refine wresO (by assumption) ?_ | dsimp only)
    exact W.ret ⟨_, o1, Inv.new R C, k1⟩

theorem winner_W {R C : Nat} {xs : List Int} {p : PV} {h : PHeap} (hS : Sides (R : Int) (C : Int) R C xs) {T : Nat} (hT : T = 1 ∨ T = 2) (hp : IntSl .i64 h p xs) (hlf : 1000 < lf) (N : Nat) (hN : 16 ≤ N) :
    ∃ h', CL g lf N fn_spec_l3Winner [.int .i64 (R : Int), .int .i64 (C : Int), p, .int .i64 (T : Int)] h = some (.int .i64 ((winN R C (setL xs 1) (setL xs 2) T : Nat) : Int), h') ∧ Keep h.length h h' := by
  obtain ⟨n, rfl⟩ : ∃ n, N = n + 1 := ⟨N - 1, by omega⟩
  have hB := board_of_sides hS
  have hlen : xs.length = R * C := hS.2.2.2.2.2.2.2.1
  have h9 := hB.2.2.2.2
  have hml : (ints (masksN R C)).length = R * C := by rw [ints_length, masksN_length]
  have : W (CL g lf (n + 1) fn_spec_l3Winner [.int .i64 (R : Int), .int .i64 (C : Int), p, .int .i64 (T : Int)] h) fun v h' => v = .int .i64 ((winN R C (setL xs 1) (setL xs 2) T : Nat) : Int) ∧ Keep h.length h h' := by
    rw [spec_l3Winner.call_eq]
    unfold spec_l3Winner.main
    simp only [env_C, env_len]
    obtain ⟨pm, h1, e1, o1, k1⟩ := l2Masks_calls g lf hB n (by omega) (by omega) (h := h)
    have hp1 := hp.keep k1
    have e2 := l2Set_calls g lf 1 hp1 (by omega) n (by omega) (by omega)
    have e3 := l2Set_calls g lf 2 hp1 (by omega) n (by omega) (by omega)
    have hlm := o1.int.len'
    rw [hml] at hlm
    repeat (first | with_reducible refine wbd (by assumption) ?_ | dsimp only)
    refine wcall (table_W g lf hB hlf n (by omega) h1) fun q h2 ⟨T2, o2, i2, k2⟩ => ?_
    repeat (first | dsimp only)
    refine wcall (solve_W g lf hB hlf (R * C) (setL xs 1) (setL xs 2) T n T2 q pm h2 h1.length (fr_le _ _ _) (pos_sets hS) hT (by omega) (o1.int.fix.keep k2) o2 k2.1 i2) fun v h3 ⟨hv, T3, o3, i3, k3⟩ => ?_
    subst hv
    repeat (first | with_reducible refine wrI ?_ | dsimp only)
    exact W.ret ⟨rfl, k1.trans ((k2.trans k3).mono k1.1)⟩
  obtain ⟨_, h', e, rfl, k⟩ := this
  exact ⟨h', e, k⟩

end Go.Proofs.YtlfjjjhjjmikfaaDoor

/- The model's chapter 3, on: the winning cells and the moves played on. -/
namespace Go.Proofs.YtlfjjjhjjmikfaaDoor
open Go Go.Ip G

/-! ### two lists at once: one between two marks, that is written to, and one apart from it, that grows -/
def Apart (b0 b1 b2 : Nat) (h : PHeap) (q : PV) (ys : List Int) : Prop := ∃ n m, OwnB n m h q ys ∧ b0 ≤ n ∧ (m ≤ b1 ∨ b2 ≤ n) ∧ m ≤ h.length
theorem Apart.keep {b0 b1 b2 : Nat} {h h' : PHeap} {q : PV} {ys : List Int} (s : Apart b0 b1 b2 h q ys) (k : Keep h.length h h') : Apart b0 b1 b2 h' q ys := by
  obtain ⟨n, m, o, h1, h2, h3⟩ := s
  exact ⟨n, m, o.keep (k.mono h3), h1, h2, Nat.le_trans h3 k.1⟩
theorem Apart.only {b0 b1 b2 : Nat} {h h' : PHeap} {q : PV} {ys : List Int} (s : Apart b0 b1 b2 h q ys) (k : Only b1 b2 h h') : Apart b0 b1 b2 h' q ys := by
  obtain ⟨n, m, o, h1, h2, h3⟩ := s
  exact ⟨n, m, o.only k (h2.imp id id), h1, h2, by rw [k.1]; exact h3⟩
theorem Apart.sl {b0 b1 b2 : Nat} {h : PHeap} {q : PV} {ys : List Int} (s : Apart b0 b1 b2 h q ys) : OwnSl b0 h q ys := by
  obtain ⟨n, m, o, h1, h2, h3⟩ := s
  exact o.sl.mono h1

theorem OwnB.append {n m : Nat} {h : PHeap} {p : PV} {xs : List Int} (s : OwnB n m h p xs) (hn : n ≤ h.length) (x : Int) (hl : xs.length + 1 ≤ 2 ^ 36) :
    ∃ v p' h', buildSliceP Tryd.prog 25 1 [(0, .int .i64 x)] h = some v ∧ appendP Tryd.prog 25 25 p v.1 v.2 = some (p', h') ∧ OwnSl h.length h' p' (xs ++ [x]) ∧ Keep n h h' ∧
      ∀ a b r zs, OwnB a b h r zs → (b ≤ n ∨ m ≤ a) → OwnB a b h' r zs := by
  have hb : buildSliceP Tryd.prog 25 1 [(0, .int .i64 x)] h = some (.sl h.length 0 1, h ++ [.own 1 [.int .i64 x]]) := by
    simp [buildSliceP, tyElem, tySize, tyZero, repeatCells, fillP, PV.cells, setCells]
  have hsrc : srcP (h ++ [.own 1 [.int .i64 x]]) 1 (.sl h.length 0 1) = some (1, [.int .i64 x]) := by
    simp [srcP, cellsAt, PObj.get]
  rcases s with ⟨rfl, rfl⟩ | ⟨id, h1, h2, rfl, h3⟩
  · refine ⟨_, .sl (h.length + 1) 0 1, h ++ [.own 1 [.int .i64 x]] ++ [.own 1 [.int .i64 x]], hb, ?_, .inr ⟨h.length + 1, by omega, rfl, ?_⟩, ?_, ?_⟩
    · simp [appendP, tyElem, tySize, tySmall, hsrc]
    · rw [List.getElem?_append_right (by simp)]; simp
    · rw [List.append_assoc]; exact Keep.append _ _ _ hn
    · rintro a b r zs (⟨rfl, rfl⟩ | ⟨i, i1, i2, rfl, i3⟩) _
      · exact .inl ⟨rfl, rfl⟩
      · refine .inr ⟨i, i1, i2, rfl, ?_⟩
        have hi : i < h.length := (List.getElem?_eq_some_iff.1 i3).1
        rw [List.append_assoc, List.getElem?_append_left hi]; exact i3
  · have hid : id < h.length := (List.getElem?_eq_some_iff.1 h3).1
    have h3' : (h ++ [PObj.own 1 [.int .i64 x]])[id]? = some (.own 1 (xs.map (.int .i64))) := by rw [List.getElem?_append_left hid]; exact h3
    refine ⟨_, .sl (h.length + 1) 0 (xs.length + 1), ((h ++ [PObj.own 1 [.int .i64 x]]).set id .dead ++ [PObj.own 1 (xs.map (.int .i64) ++ [.int .i64 x])]), hb, ?_, .inr ⟨h.length + 1, by omega, by simp, ?_⟩, ?_, ?_⟩
    · simp [appendP, tyElem, tySize, tySmall, hsrc, h3', hl]
    · rw [List.getElem?_append_right (by simp)]; simp
    · exact ((Keep.append n h _ hn).trans (Keep.set n _ id .dead h1)).trans (Keep.append _ _ _ (by simp; omega))
    · rintro a b r zs (⟨rfl, rfl⟩ | ⟨i, i1, i2, rfl, i3⟩) hd
      · exact .inl ⟨rfl, rfl⟩
      · refine .inr ⟨i, i1, i2, rfl, ?_⟩
        have hi : i < h.length := (List.getElem?_eq_some_iff.1 i3).1
        rw [List.getElem?_append_left (by simp; omega), List.getElem?_set_ne (by omega), List.getElem?_append_left hi]; exact i3

section
variable {Q : PV → PHeap → Prop} {h : PHeap} {p r : PV} {xs zs : List Int} {b0 b1 b2 : Nat}
theorem wapA (s : Apart b0 b1 b2 h p xs) (o : OwnB b1 b2 h r zs) (hb0 : b0 ≤ h.length) (hb2 : b2 ≤ h.length) {x : Int} (hl : xs.length + 1 ≤ 2 ^ 36) {F : PV × PHeap → Res}
    (hf : ∀ p' h', Apart b0 b1 b2 h' p' (xs ++ [x]) → OwnB b1 b2 h' r zs → Keep b0 h h' → W (F (p', h')) Q) :
    W ((buildSliceP Tryd.prog 25 1 [(0, .int .i64 x)] h).bind fun v => (appendP Tryd.prog 25 25 p v.1 v.2).bind F) Q := by
  obtain ⟨n, m, on, h1, h2, h3⟩ := s
  rcases Nat.le_total n h.length with hn | hn
  · obtain ⟨v, p', h', e1, e2, o', k, fr⟩ := on.append hn x hl
    exact wbd e1 (wbd e2 (hf p' h' ⟨h.length, h'.length, o'.b, hb0, .inr hb2, Nat.le_refl _⟩ (fr _ _ _ _ o (by omega)) (k.mono h1)))
  · have o0 : OwnB h.length m h p xs := by
      rcases on with on | ⟨id, i1, i2, i3, i4⟩
      · exact .inl on
      · have := (List.getElem?_eq_some_iff.1 i4).1; omega
    obtain ⟨v, p', h', e1, e2, o', k, fr⟩ := o0.append (Nat.le_refl _) x hl
    exact wbd e1 (wbd e2 (hf p' h' ⟨h.length, h'.length, o'.b, hb0, .inr hb2, Nat.le_refl _⟩ (fr _ _ _ _ o (by omega)) (k.mono hb0)))
theorem wstB (s : OwnB b1 b2 h p xs) {i : Nat} (hi : i < xs.length) {x : Int} {F : PV → PHeap → Res}
    (hf : ∀ h', OwnB b1 b2 h' p (xs.set i x) → Only b1 b2 h h' → ∀ a, W (F a h') Q) :
    W ((indexAddrP Tryd.prog 25 p (.int .i64 (i : Int))).bind fun a => (storeP Tryd.prog 3 a (.int .i64 x) h).bind fun h' => F a h') Q := by
  obtain ⟨a, h', e1, e2, o, k⟩ := s.store hi x
  refine wbd e1 ?_
  show W ((storeP Tryd.prog 3 a (.int .i64 x) h).bind fun h' => F a h') Q
  exact wbd e2 (hf h' o k a)
/-- The first element is read. -/
theorem wat0 (s : IntSl .i64 h p xs) (hi : 0 < xs.length) {f : PV → Res} (hf : ∀ a, loadP Tryd.prog 3 a h = some (.int .i64 xs[0]) → W (f a) Q) : W ((indexAddrP Tryd.prog 25 p (.int .i64 0)).bind f) Q := wat s hi hf
end

/-! ### winning cells -/
def winFrom (r c : Int) (xs : List Int) (pl : Int) (k m : Nat) : List Int := ((List.range' k m).filter (winsB r c xs pl)).map fun k : Nat => (k : Int)
theorem winFrom_all (r c : Int) (xs : List Int) (pl : Int) : winFrom r c xs pl 0 xs.length = winCellsL r c xs pl := by unfold winFrom winCellsL; rw [List.range_eq_range']
theorem winFrom_succ (r c : Int) (xs : List Int) (pl : Int) (k m : Nat) : winFrom r c xs pl k (m + 1) = if winsB r c xs pl k = true then (k : Int) :: winFrom r c xs pl (k + 1) m else winFrom r c xs pl (k + 1) m := by
  unfold winFrom
  rw [List.range'_succ, List.filter_cons]
  split <;> rfl

variable (g : Nat → PV) (lf n : Nat)

theorem specWinningCells_calls {xs : List Int} {p : PV} {h : PHeap} (N : Nat) (hN : 18 ≤ N) (r c pl : Int) (hp : IntSl .i64 h p xs) (hl : xs.length ≤ 2 ^ 35) (hf : xs.length < lf) (hlf : 1000 < lf) :
    ∃ q h', CL g lf N fn_spec_WinningCells [.int .i64 r, .int .i64 c, p, .int .i64 pl] h = some (q, h') ∧ OwnSl h.length h' q (winCellsL r c xs pl) ∧ Keep h.length h h' := by
  obtain ⟨n, rfl⟩ : ∃ n, N = n + 1 := ⟨N - 1, by omega⟩
  suffices this : W (CL g lf (n + 1) fn_spec_WinningCells [.int .i64 r, .int .i64 c, p, .int .i64 pl] h) fun q h' => OwnSl h.length h' q (winCellsL r c xs pl) ∧ Keep h.length h h' by
    obtain ⟨q, h', e, o, k⟩ := this
    exact ⟨q, h', e, o, k⟩
  rw [spec_WinningCells.call_eq]
  unfold spec_WinningCells.main
  simp only [env_lf, env_buildSlice]
  refine wempty fun q h1 o1 k1 => ?_
  refine loopW (fun m s => ∃ (k : Nat) (ys : List Int) (q : PV) (h2 : PHeap), s = spec_WinningCells.st0 (.int .i64 r) (.int .i64 c) p (.int .i64 pl) q (.int .i64 (k : Int)) h2 ∧ k + m = xs.length ∧ ys.length ≤ k ∧ ys ++ winFrom r c xs pl k m = winCellsL r c xs pl ∧ OwnSl h.length h2 q ys ∧ Keep h.length h h2) ?_ lf xs.length _ hf ⟨0, [], q, h1, rfl, by omega, Nat.le_refl _, winFrom_all r c xs pl, o1, k1⟩
  rintro n1 m s ⟨k, ys, q, h2, rfl, hkm, hy, hL, o2, k2⟩ next
  have hp2 := hp.keep k2
  rw [spec_WinningCells.body0_eq]
  unfold spec_WinningCells.body0
  simp only [env_C, env_pick, env_buildSlice, env_bin, env_extract, env_len, env_append]
  cases m with
  | zero =>
    repeat (first | with_reducible refine wF ?_ | with_reducible refine wlen (by assumption) ?_ | with_reducible refine wlssF (by omega) ?_ | with_reducible refine wresO (by assumption) ?_ | rw [kLoop_exit] | rw [spec_WinningCells.after0_se0_0_1_2_3_9_10_17])
    have : winFrom r c xs pl k 0 = [] := rfl
    rw [this, List.append_nil] at hL
    exact W.ret ⟨hL ▸ o2, k2⟩
  | succ m =>
    have hk : k < xs.length := by omega
    rw [winFrom_succ] at hL
    obtain ⟨q3, h3, e3, o3, k3⟩ := specPlayed_calls g lf n (by omega) r c (k : Int) pl hp2 hl hf hlf
    cases hm : moveL r c xs (k : Int) pl with
    | false =>
      have hw : winsB r c xs pl k = false := by unfold winsB; rw [hm]; rfl
      rw [hw, if_neg (by decide)] at hL
      rw [hm] at e3
      repeat (first | with_reducible refine wT ?_ | with_reducible refine wF ?_ | with_reducible refine wg0 rfl ?_ | with_reducible refine wpF ?_ | with_reducible refine wsm ?_ | with_reducible refine wx0 ?_ | with_reducible refine wx1 ?_ | with_reducible refine wbd (by assumption) ?_ | with_reducible refine wlen (by assumption) ?_ | with_reducible refine wadd1 (by omega) ?_ | with_reducible refine wlssT (by omega) ?_ | dsimp only)
      exact next _ _ (Nat.lt_succ_self m) ⟨k + 1, ys, q, h3, rfl, by omega, by omega, hL, o2.keep k3, k2.trans (k3.mono k2.1)⟩
    | true =>
      obtain ⟨hb, hpl, hk0, hj1, hj2⟩ := moveL_iff.1 hm
      rw [hm] at e3
      rw [playedL_eq hm] at o3
      obtain ⟨R, C, hS⟩ := sides_of hb
      obtain ⟨P, rfl, hP⟩ := player_of hpl
      obtain ⟨rfl, rfl, _⟩ := id hS
      have hP' : 3 - P = 1 ∨ 3 - P = 2 := by omega
      have e4 := other_W g lf n (by omega) h3 hP
      have hS2 := sides_set hb hS (k := k) hP
      obtain ⟨h5, e5, k5⟩ := winner_W g lf hS2 hP' o3.int hlf n (by omega)
      have kk : Keep h.length h h5 := (k2.trans (k3.mono k2.1)).trans (k5.mono (Nat.le_trans k2.1 k3.1))
      have o5 := (o2.keep k3).keep k5
      have hv : winL (R : Int) (C : Int) (xs.set k (P : Int)) (3 - (P : Int)) = ((winN R C (setL (xs.set k (P : Int)) 1) (setL (xs.set k (P : Int)) 2) (3 - P) : Nat) : Int) := by
        rw [show (3 : Int) - (P : Int) = ((3 - P : Nat) : Int) by omega]; exact winL_eq (pos_set hb hP k) hP'
      have hw : winsB (R : Int) (C : Int) xs (P : Int) k = decide (((winN R C (setL (xs.set k (P : Int)) 1) (setL (xs.set k (P : Int)) 2) (3 - P) : Nat) : Int) = (P : Int)) := by unfold winsB; rw [hm, hv, Bool.true_and]
      rw [hw] at hL
      repeat (first | with_reducible refine wT ?_ | with_reducible refine wg1 rfl ?_ | with_reducible refine wpv ?_ | with_reducible refine wsm ?_ | with_reducible refine wx0 ?_ | with_reducible refine wx1 ?_ | with_reducible refine wbd (by assumption) ?_ | with_reducible refine wlen (by assumption) ?_ | with_reducible refine wlssT (by omega) ?_ | dsimp only)
      refine weql (fun e => ?_) (fun e => ?_)
      · rw [decide_eq_true e, if_pos rfl] at hL
        repeat (first | with_reducible refine wT ?_ | with_reducible refine wpT ?_ | (refine wap o5 kk.1 (by omega) fun p' h6 o6 k6 => ?_) | with_reducible refine wadd1 (by omega) ?_ | dsimp only)
        exact next _ _ (Nat.lt_succ_self m) ⟨k + 1, ys ++ [(k : Int)], p', h6, rfl, by omega, by simp; omega, by rw [List.append_assoc]; exact hL, o6, kk.trans k6⟩
      · rw [decide_eq_false e, if_neg (by decide)] at hL
        repeat (first | with_reducible refine wF ?_ | with_reducible refine wpT ?_ | with_reducible refine wadd1 (by omega) ?_)
        exact next _ _ (Nat.lt_succ_self m) ⟨k + 1, ys, q, h5, rfl, by omega, by omega, hL, o5, kk⟩

/-! ### played on -/
theorem goB_false {R C : Nat} {zs : List Int} {f : Nat} {T : Int} (h : goB (R : Int) (C : Int) zs = false) : lineF (R : Int) (C : Int) f zs T = [] := by
  cases f with
  | zero => rfl
  | succ f => rw [lineF, h]; rfl

end Go.Proofs.YtlfjjjhjjmikfaaDoor

/- Chapter 3's laws over what the program's functions are asked to compute: the draws, and the exact laws. -/
namespace Go.Proofs.YtlfjjjhjjmikfaaDoor
open Go Go.Ip G

def WinnerOk (g : Nat → PV) (lf : Nat) : Prop := ∀ (N : Nat), 40 ≤ N → ∀ (r c t : Int) {xs : List Int} {p : PV} {h : PHeap}, TabOk g h → IntSl .i64 h p xs → xs.length ≤ 2 ^ 35 → xs.length < lf →
  ∃ h', CL g lf N fn_impl_WinnerOf [.int .i64 r, .int .i64 c, p, .int .i64 t] h = some (.int .i64 (winL r c xs t), h') ∧ Keep h.length h h'
def WinCellsOk (g : Nat → PV) (lf : Nat) : Prop := ∀ (N : Nat), 40 ≤ N → ∀ (r c pl : Int) {xs : List Int} {p : PV} {h : PHeap}, TabOk g h → IntSl .i64 h p xs → xs.length ≤ 2 ^ 35 → xs.length < lf →
  ∃ q h', CL g lf N fn_impl_WinningCells [.int .i64 r, .int .i64 c, p, .int .i64 pl] h = some (q, h') ∧ OwnSl h.length h' q (winCellsL r c xs pl) ∧ Keep h.length h h'
theorem W.yes {x : Res} (hx : W x fun v _ => v = .bool true) : ∃ h', x = some (.bool true, h') := by
  obtain ⟨_, h', e, rfl⟩ := hx; exact ⟨h', e⟩
section
variable {Q : PV → PHeap → Prop} {b : Bool} {f : PV → Res}
theorem wneqBB (hf : W (f (.bool false)) Q) : W ((binP Tryd.prog .neq 4 (.bool b) (.bool b)).bind f) Q := wbd (by rw [neqB]; simp) hf
theorem weqlBB (hf : W (f (.bool true)) Q) : W ((binP Tryd.prog .eql 4 (.bool b) (.bool b)).bind f) Q := wbd (by rw [eqlB]; simp) hf
/-- A call, with the heap's mark kept. -/
theorem wcv {x : Res} {v : PV} {m : Nat} {h0 h : PHeap} (c : ∃ h', x = some (v, h') ∧ Keep h.length h h') (k : Keep m h0 h) (hm : m ≤ h0.length) {f : PV × PHeap → Res} (hf : ∀ h', Keep m h0 h' → W (f (v, h')) Q) : W (x.bind f) Q := by
  obtain ⟨h', e, k'⟩ := c
  exact wbd e (hf h' (k.trans (k'.mono (Nat.le_trans hm k.1))))
theorem wcl {x : Res} {L : List Int} {m : Nat} {h0 h : PHeap} (c : ∃ q h', x = some (q, h') ∧ OwnSl h.length h' q L ∧ Keep h.length h h') (k : Keep m h0 h) (hm : m ≤ h0.length) {f : PV × PHeap → Res} (hf : ∀ q h', OwnSl h.length h' q L → Fix h'.length h' q L → Keep m h0 h' → W (f (q, h')) Q) : W (x.bind f) Q := by
  obtain ⟨q, h', e, o, k'⟩ := c
  exact wbd e (hf q h' o o.int.fix (k.trans (k'.mono (Nat.le_trans hm k.1))))
end
theorem Fix.re {m : Nat} {h h' : PHeap} {p : PV} {xs : List Int} (s : Fix m h p xs) (k : Keep m h h') (hm : m ≤ h.length) : Fix h'.length h' p xs := fun h2 k2 => s h2 (k.trans (k2.mono (Nat.le_trans hm k.1)))
theorem tabF {g : Nat → PV} {h h1 : PHeap} (t : TabOk g h) (k : Keep h.length h h1) : ∀ h2, Keep h1.length h1 h2 → TabOk g h2 := fun _ k2 => (t.keep k).keep k2

variable (g : Nat → PV) (lf n : Nat)

/-! ### the draws -/
end Go.Proofs.YtlfjjjhjjmikfaaDoor

/- The laws of chapter 3 over what the program's functions are asked to compute: promises 16, 17, 18 and 21. -/
namespace Go.Proofs.YtlfjjjhjjmikfaaDoor
open Go Go.Ip G

theorem moveL_swap {r c : Int} {xs : List Int} {k pl : Int} (h1 : 1 ≤ pl) (h2 : pl ≤ 2) : moveL r c xs k (3 - pl) = moveL r c xs k pl := by
  unfold moveL
  rw [show playerB (3 - pl) = true by unfold playerB; exact decide_eq_true (by omega), show playerB pl = true by unfold playerB; exact decide_eq_true (by omega)]
theorem moveL_joins {r c : Int} {xs : List Int} {k pl : Int} (h : moveL r c xs k pl = true) {w : Int} (h1 : 1 ≤ w) (h2 : w ≤ 2) : joinsL r c xs w = false := by
  obtain ⟨K, rfl, _⟩ := moveL_cell h
  have := moveL_iff.1 h
  have : w = 1 ∨ w = 2 := by omega
  rcases this with rfl | rfl
  · exact (moveL_iff.1 h).2.2.2.1
  · exact (moveL_iff.1 h).2.2.2.2
theorem count_set {xs : List Int} {k : Nat} {w : Int} (hk : xs[k]? = some 0) (hw : w ≠ 0) : (xs.set k w).count 0 + 1 = xs.count 0 := by
  have hkl : k < xs.length := (List.getElem?_eq_some_iff.1 hk).1
  have hx : xs[k] = 0 := by rw [List.getElem?_eq_getElem hkl] at hk; exact Option.some.inj hk
  have hmem : 0 < xs.count 0 := List.count_pos_iff.2 (hx ▸ List.getElem_mem hkl)
  rw [List.count_set hkl, hx]
  simp [hw]
  omega

variable (g : Nat → PV) (lf n : Nat)

end Go.Proofs.YtlfjjjhjjmikfaaDoor

/- The laws of chapter 3 over what the program's functions are asked to compute: promises 18, 19, 20 and 22. -/
namespace Go.Proofs.YtlfjjjhjjmikfaaDoor
open Go Go.Ip G

theorem Fix.get {b : Nat} {h h' : PHeap} {p : PV} {xs : List Int} (s : Fix b h p xs) (k : Keep b h h') : IntSl .i64 h' p xs := s h' k
theorem sorted_get {L : List Int} (h : L.Pairwise (· < ·)) : ∀ i (hi : i + 1 < L.length), L[i] < L[i + 1] := fun i hi => List.pairwise_iff_getElem.1 h i (i + 1) (by omega) hi (by omega)
theorem wins_in {r c : Int} {xs : List Int} {pl : Int} {k : Nat} : decide ((k : Int) ∈ winCellsL r c xs pl) = winsB r c xs pl k := by
  rw [Bool.eq_iff_iff, decide_eq_true_iff, winCells_mem]
  constructor
  · rintro ⟨j, hj, hw⟩
    have : k = j := by omega
    rw [this]; exact hw
  · intro h; exact ⟨k, rfl, h⟩

variable (g : Nat → PV) (lf n : Nat)

end Go.Proofs.YtlfjjjhjjmikfaaDoor

/- The boards that the model draws for chapters 4 and 5, and the draws. -/
namespace Go.Proofs.YtlfjjjhjjmikfaaDoor
open Go Go.Ip Go.RowKit G

theorem lit12 (h : PHeap) (a0 a1 a2 a3 a4 a5 a6 a7 a8 a9 a10 a11 : Nat) : buildSliceP Tryd.prog 58 12 [(0, .sl a0 0 2), (1, .sl a1 0 2), (2, .sl a2 0 2), (3, .sl a3 0 2), (4, .sl a4 0 2), (5, .sl a5 0 2), (6, .sl a6 0 2), (7, .sl a7 0 2), (8, .sl a8 0 2), (9, .sl a9 0 2), (10, .sl a10 0 2), (11, .sl a11 0 2)] h = some (.sl h.length 0 12, h ++ [.own 1 [.sl a0 0 2, .sl a1 0 2, .sl a2 0 2, .sl a3 0 2, .sl a4 0 2, .sl a5 0 2, .sl a6 0 2, .sl a7 0 2, .sl a8 0 2, .sl a9 0 2, .sl a10 0 2, .sl a11 0 2]]) := by kernel_rfl
theorem lit10 (h : PHeap) (a0 a1 a2 a3 a4 a5 a6 a7 a8 a9 : Nat) : buildSliceP Tryd.prog 58 10 [(0, .sl a0 0 2), (1, .sl a1 0 2), (2, .sl a2 0 2), (3, .sl a3 0 2), (4, .sl a4 0 2), (5, .sl a5 0 2), (6, .sl a6 0 2), (7, .sl a7 0 2), (8, .sl a8 0 2), (9, .sl a9 0 2)] h = some (.sl h.length 0 10, h ++ [.own 1 [.sl a0 0 2, .sl a1 0 2, .sl a2 0 2, .sl a3 0 2, .sl a4 0 2, .sl a5 0 2, .sl a6 0 2, .sl a7 0 2, .sl a8 0 2, .sl a9 0 2]]) := by kernel_rfl

def smallObjs (L : Nat) : List PObj := [.own 1 [.int .i64 1, .int .i64 1], .own 1 [.int .i64 1, .int .i64 2], .own 1 [.int .i64 2, .int .i64 1], .own 1 [.int .i64 2, .int .i64 2], .own 1 [.int .i64 2, .int .i64 3], .own 1 [.int .i64 3, .int .i64 2], .own 1 [.int .i64 1, .int .i64 3], .own 1 [.int .i64 1, .int .i64 4], .own 1 [.int .i64 4, .int .i64 1], .own 1 [.int .i64 2, .int .i64 2], .own 1 [.int .i64 0, .int .i64 1], .own 1 [.int .i64 3, .int .i64 4]] ++ [.own 1 [.sl (L + 0) 0 2, .sl (L + 1) 0 2, .sl (L + 2) 0 2, .sl (L + 3) 0 2, .sl (L + 4) 0 2, .sl (L + 5) 0 2, .sl (L + 6) 0 2, .sl (L + 7) 0 2, .sl (L + 8) 0 2, .sl (L + 9) 0 2, .sl (L + 10) 0 2, .sl (L + 11) 0 2]]

/-- The row v of the table, in whatever heap that holds the table still. -/
theorem small_row (h h' : PHeap) (id : Nat) (hid : id < h.length) (hk : KeepX id (h.length + 13) (h ++ smallObjs h.length) h') (v : Nat) (hv : v < 12) :
    ∃ r c, loadP Tryd.prog 25 (.ptr (h.length + 12) (0 + v)) h' = some (.sl (h.length + v) 0 2) ∧ cellsAt h' (h.length + v) = [.int .i64 r, .int .i64 c] ∧ -1 ≤ r ∧ r ≤ 5 ∧ -1 ≤ c ∧ c ≤ 5 := by
  have hb : h'[h.length + 12]? = some (.own 1 [.sl (h.length + 0) 0 2, .sl (h.length + 1) 0 2, .sl (h.length + 2) 0 2, .sl (h.length + 3) 0 2, .sl (h.length + 4) 0 2, .sl (h.length + 5) 0 2, .sl (h.length + 6) 0 2, .sl (h.length + 7) 0 2, .sl (h.length + 8) 0 2, .sl (h.length + 9) 0 2, .sl (h.length + 10) 0 2, .sl (h.length + 11) 0 2]) := by
    rw [hk.2 _ (by omega) (by omega), List.getElem?_append_right (by omega), Nat.add_sub_cancel_left]; rfl
  have hs : ∀ j, j < 12 → h'[h.length + j]? = (smallObjs h.length)[j]? := fun j hj => by
    rw [hk.2 _ (by omega) (by omega), List.getElem?_append_right (by omega), Nat.add_sub_cancel_left]
  have hrow := hs v (by omega)
  simp only [loadP, tyBoxAgg, cellsAt, hb, hrow]
  have : v = 0 ∨ v = 1 ∨ v = 2 ∨ v = 3 ∨ v = 4 ∨ v = 5 ∨ v = 6 ∨ v = 7 ∨ v = 8 ∨ v = 9 ∨ v = 10 ∨ v = 11 := by omega
  rcases this with rfl | rfl | rfl | rfl | rfl | rfl | rfl | rfl | rfl | rfl | rfl | rfl <;> exact ⟨_, _, rfl, rfl, by omega, by omega, by omega, by omega⟩

def wideObjs (L : Nat) : List PObj := [.own 1 [.int .i64 1, .int .i64 2], .own 1 [.int .i64 2, .int .i64 3], .own 1 [.int .i64 2, .int .i64 4], .own 1 [.int .i64 1, .int .i64 3], .own 1 [.int .i64 1, .int .i64 4], .own 1 [.int .i64 2, .int .i64 3], .own 1 [.int .i64 2, .int .i64 4], .own 1 [.int .i64 2, .int .i64 2], .own 1 [.int .i64 3, .int .i64 2], .own 1 [.int .i64 3, .int .i64 4]] ++ [.own 1 [.sl (L + 0) 0 2, .sl (L + 1) 0 2, .sl (L + 2) 0 2, .sl (L + 3) 0 2, .sl (L + 4) 0 2, .sl (L + 5) 0 2, .sl (L + 6) 0 2, .sl (L + 7) 0 2, .sl (L + 8) 0 2, .sl (L + 9) 0 2]]

/-- The row v of the table, in whatever heap that holds the table still. -/
theorem wide_row (h h' : PHeap) (id : Nat) (hid : id < h.length) (hk : KeepX id (h.length + 11) (h ++ wideObjs h.length) h') (v : Nat) (hv : v < 10) :
    ∃ r c, loadP Tryd.prog 25 (.ptr (h.length + 10) (0 + v)) h' = some (.sl (h.length + v) 0 2) ∧ cellsAt h' (h.length + v) = [.int .i64 r, .int .i64 c] ∧ -1 ≤ r ∧ r ≤ 5 ∧ -1 ≤ c ∧ c ≤ 5 := by
  have hb : h'[h.length + 10]? = some (.own 1 [.sl (h.length + 0) 0 2, .sl (h.length + 1) 0 2, .sl (h.length + 2) 0 2, .sl (h.length + 3) 0 2, .sl (h.length + 4) 0 2, .sl (h.length + 5) 0 2, .sl (h.length + 6) 0 2, .sl (h.length + 7) 0 2, .sl (h.length + 8) 0 2, .sl (h.length + 9) 0 2]) := by
    rw [hk.2 _ (by omega) (by omega), List.getElem?_append_right (by omega), Nat.add_sub_cancel_left]; rfl
  have hs : ∀ j, j < 10 → h'[h.length + j]? = (wideObjs h.length)[j]? := fun j hj => by
    rw [hk.2 _ (by omega) (by omega), List.getElem?_append_right (by omega), Nat.add_sub_cancel_left]
  have hrow := hs v (by omega)
  simp only [loadP, tyBoxAgg, cellsAt, hb, hrow]
  have : v = 0 ∨ v = 1 ∨ v = 2 ∨ v = 3 ∨ v = 4 ∨ v = 5 ∨ v = 6 ∨ v = 7 ∨ v = 8 ∨ v = 9 := by omega
  rcases this with rfl | rfl | rfl | rfl | rfl | rfl | rfl | rfl | rfl | rfl <;> exact ⟨_, _, rfl, rfl, by omega, by omega, by omega, by omega⟩

variable (g : Nat → PV) (lf n : Nat)

set_option maxHeartbeats 1000000 in
theorem small_calls {h : PHeap} {id m : Nat} (N : Nat) (hN : 3 ≤ N) (hr : Rd h id m) (hm : m ≤ 900000) :
    ∃ (r c : Int) (h' : PHeap), CL g lf N fn_spec_l20Small [.ptr id 0] h = some (.tup [.int .i64 r, .int .i64 c], h') ∧ Rd h' id (m + 1) ∧ KeepX id h.length h h' ∧ -1 ≤ r ∧ r ≤ 5 ∧ -1 ≤ c ∧ c ≤ 5 := by
  obtain ⟨n, rfl⟩ : ∃ n, N = n + 1 := ⟨N - 1, by omega⟩
  rw [spec_l20Small.call_eq]
  have hid := hr.lt
  have hrt := hr.keep (Keep.append h.length h (smallObjs h.length) (Nat.le_refl _)) hid
  obtain ⟨v, h1, e1, r1, o1, v0, v1, _⟩ := pick_calls g lf n (by omega) 12 hrt (by omega) (by omega)
  obtain ⟨V, rfl⟩ := Int.eq_ofNat_of_zero_le v0
  have hV : V < 12 := by have := v1 (by omega); omega
  have kx1 : KeepX id (h.length + 13) (h ++ smallObjs h.length) h1 := o1.x
  have kxb : KeepX id h.length h h1 := (Keep.append h.length h (smallObjs h.length) (Nat.le_refl _)).x.trans (kx1.mono (by omega))
  obtain ⟨r, c, l1, cc, hrc⟩ := small_row h h1 id hid kx1 V hV
  have hix : indexAddrP Tryd.prog 58 (.sl (h.length + 12) 0 12) (.int .i64 (V : Int)) = some (.ptr (h.length + 12) (0 + V)) := by
    have : (V : Int) < 12 := by omega
    simp [indexAddrP, tyBoxU, tyBoxSize, this]
  obtain ⟨g1, g2, g3, g4⟩ := row_get cc
  refine ⟨r, c, h1, ?_, r1, kxb, hrc⟩
  unfold spec_l20Small.main
  refine bd (v := (PV.sl (h.length + 0) 0 2, h ++ [PObj.own 1 [.int .i64 1, .int .i64 1]])) (by have := lit2 h [] 1 1; simpa using this) ?_
  refine bd (v := (PV.sl (h.length + 1) 0 2, h ++ [PObj.own 1 [.int .i64 1, .int .i64 1], .own 1 [.int .i64 1, .int .i64 2]])) (lit2 h [PObj.own 1 [.int .i64 1, .int .i64 1]] 1 2) ?_
  refine bd (v := (PV.sl (h.length + 2) 0 2, h ++ [PObj.own 1 [.int .i64 1, .int .i64 1], .own 1 [.int .i64 1, .int .i64 2], .own 1 [.int .i64 2, .int .i64 1]])) (lit2 h [PObj.own 1 [.int .i64 1, .int .i64 1], .own 1 [.int .i64 1, .int .i64 2]] 2 1) ?_
  refine bd (v := (PV.sl (h.length + 3) 0 2, h ++ [PObj.own 1 [.int .i64 1, .int .i64 1], .own 1 [.int .i64 1, .int .i64 2], .own 1 [.int .i64 2, .int .i64 1], .own 1 [.int .i64 2, .int .i64 2]])) (lit2 h [PObj.own 1 [.int .i64 1, .int .i64 1], .own 1 [.int .i64 1, .int .i64 2], .own 1 [.int .i64 2, .int .i64 1]] 2 2) ?_
  refine bd (v := (PV.sl (h.length + 4) 0 2, h ++ [PObj.own 1 [.int .i64 1, .int .i64 1], .own 1 [.int .i64 1, .int .i64 2], .own 1 [.int .i64 2, .int .i64 1], .own 1 [.int .i64 2, .int .i64 2], .own 1 [.int .i64 2, .int .i64 3]])) (lit2 h [PObj.own 1 [.int .i64 1, .int .i64 1], .own 1 [.int .i64 1, .int .i64 2], .own 1 [.int .i64 2, .int .i64 1], .own 1 [.int .i64 2, .int .i64 2]] 2 3) ?_
  refine bd (v := (PV.sl (h.length + 5) 0 2, h ++ [PObj.own 1 [.int .i64 1, .int .i64 1], .own 1 [.int .i64 1, .int .i64 2], .own 1 [.int .i64 2, .int .i64 1], .own 1 [.int .i64 2, .int .i64 2], .own 1 [.int .i64 2, .int .i64 3], .own 1 [.int .i64 3, .int .i64 2]])) (lit2 h [PObj.own 1 [.int .i64 1, .int .i64 1], .own 1 [.int .i64 1, .int .i64 2], .own 1 [.int .i64 2, .int .i64 1], .own 1 [.int .i64 2, .int .i64 2], .own 1 [.int .i64 2, .int .i64 3]] 3 2) ?_
  refine bd (v := (PV.sl (h.length + 6) 0 2, h ++ [PObj.own 1 [.int .i64 1, .int .i64 1], .own 1 [.int .i64 1, .int .i64 2], .own 1 [.int .i64 2, .int .i64 1], .own 1 [.int .i64 2, .int .i64 2], .own 1 [.int .i64 2, .int .i64 3], .own 1 [.int .i64 3, .int .i64 2], .own 1 [.int .i64 1, .int .i64 3]])) (lit2 h [PObj.own 1 [.int .i64 1, .int .i64 1], .own 1 [.int .i64 1, .int .i64 2], .own 1 [.int .i64 2, .int .i64 1], .own 1 [.int .i64 2, .int .i64 2], .own 1 [.int .i64 2, .int .i64 3], .own 1 [.int .i64 3, .int .i64 2]] 1 3) ?_
  refine bd (v := (PV.sl (h.length + 7) 0 2, h ++ [PObj.own 1 [.int .i64 1, .int .i64 1], .own 1 [.int .i64 1, .int .i64 2], .own 1 [.int .i64 2, .int .i64 1], .own 1 [.int .i64 2, .int .i64 2], .own 1 [.int .i64 2, .int .i64 3], .own 1 [.int .i64 3, .int .i64 2], .own 1 [.int .i64 1, .int .i64 3], .own 1 [.int .i64 1, .int .i64 4]])) (lit2 h [PObj.own 1 [.int .i64 1, .int .i64 1], .own 1 [.int .i64 1, .int .i64 2], .own 1 [.int .i64 2, .int .i64 1], .own 1 [.int .i64 2, .int .i64 2], .own 1 [.int .i64 2, .int .i64 3], .own 1 [.int .i64 3, .int .i64 2], .own 1 [.int .i64 1, .int .i64 3]] 1 4) ?_
  refine bd (v := (PV.sl (h.length + 8) 0 2, h ++ [PObj.own 1 [.int .i64 1, .int .i64 1], .own 1 [.int .i64 1, .int .i64 2], .own 1 [.int .i64 2, .int .i64 1], .own 1 [.int .i64 2, .int .i64 2], .own 1 [.int .i64 2, .int .i64 3], .own 1 [.int .i64 3, .int .i64 2], .own 1 [.int .i64 1, .int .i64 3], .own 1 [.int .i64 1, .int .i64 4], .own 1 [.int .i64 4, .int .i64 1]])) (lit2 h [PObj.own 1 [.int .i64 1, .int .i64 1], .own 1 [.int .i64 1, .int .i64 2], .own 1 [.int .i64 2, .int .i64 1], .own 1 [.int .i64 2, .int .i64 2], .own 1 [.int .i64 2, .int .i64 3], .own 1 [.int .i64 3, .int .i64 2], .own 1 [.int .i64 1, .int .i64 3], .own 1 [.int .i64 1, .int .i64 4]] 4 1) ?_
  refine bd (v := (PV.sl (h.length + 9) 0 2, h ++ [PObj.own 1 [.int .i64 1, .int .i64 1], .own 1 [.int .i64 1, .int .i64 2], .own 1 [.int .i64 2, .int .i64 1], .own 1 [.int .i64 2, .int .i64 2], .own 1 [.int .i64 2, .int .i64 3], .own 1 [.int .i64 3, .int .i64 2], .own 1 [.int .i64 1, .int .i64 3], .own 1 [.int .i64 1, .int .i64 4], .own 1 [.int .i64 4, .int .i64 1], .own 1 [.int .i64 2, .int .i64 2]])) (lit2 h [PObj.own 1 [.int .i64 1, .int .i64 1], .own 1 [.int .i64 1, .int .i64 2], .own 1 [.int .i64 2, .int .i64 1], .own 1 [.int .i64 2, .int .i64 2], .own 1 [.int .i64 2, .int .i64 3], .own 1 [.int .i64 3, .int .i64 2], .own 1 [.int .i64 1, .int .i64 3], .own 1 [.int .i64 1, .int .i64 4], .own 1 [.int .i64 4, .int .i64 1]] 2 2) ?_
  refine bd (v := (PV.sl (h.length + 10) 0 2, h ++ [PObj.own 1 [.int .i64 1, .int .i64 1], .own 1 [.int .i64 1, .int .i64 2], .own 1 [.int .i64 2, .int .i64 1], .own 1 [.int .i64 2, .int .i64 2], .own 1 [.int .i64 2, .int .i64 3], .own 1 [.int .i64 3, .int .i64 2], .own 1 [.int .i64 1, .int .i64 3], .own 1 [.int .i64 1, .int .i64 4], .own 1 [.int .i64 4, .int .i64 1], .own 1 [.int .i64 2, .int .i64 2], .own 1 [.int .i64 0, .int .i64 1]])) (lit2 h [PObj.own 1 [.int .i64 1, .int .i64 1], .own 1 [.int .i64 1, .int .i64 2], .own 1 [.int .i64 2, .int .i64 1], .own 1 [.int .i64 2, .int .i64 2], .own 1 [.int .i64 2, .int .i64 3], .own 1 [.int .i64 3, .int .i64 2], .own 1 [.int .i64 1, .int .i64 3], .own 1 [.int .i64 1, .int .i64 4], .own 1 [.int .i64 4, .int .i64 1], .own 1 [.int .i64 2, .int .i64 2]] 0 1) ?_
  refine bd (v := (PV.sl (h.length + 11) 0 2, h ++ [PObj.own 1 [.int .i64 1, .int .i64 1], .own 1 [.int .i64 1, .int .i64 2], .own 1 [.int .i64 2, .int .i64 1], .own 1 [.int .i64 2, .int .i64 2], .own 1 [.int .i64 2, .int .i64 3], .own 1 [.int .i64 3, .int .i64 2], .own 1 [.int .i64 1, .int .i64 3], .own 1 [.int .i64 1, .int .i64 4], .own 1 [.int .i64 4, .int .i64 1], .own 1 [.int .i64 2, .int .i64 2], .own 1 [.int .i64 0, .int .i64 1], .own 1 [.int .i64 3, .int .i64 4]])) (lit2 h [PObj.own 1 [.int .i64 1, .int .i64 1], .own 1 [.int .i64 1, .int .i64 2], .own 1 [.int .i64 2, .int .i64 1], .own 1 [.int .i64 2, .int .i64 2], .own 1 [.int .i64 2, .int .i64 3], .own 1 [.int .i64 3, .int .i64 2], .own 1 [.int .i64 1, .int .i64 3], .own 1 [.int .i64 1, .int .i64 4], .own 1 [.int .i64 4, .int .i64 1], .own 1 [.int .i64 2, .int .i64 2], .own 1 [.int .i64 0, .int .i64 1]] 3 4) ?_
  refine bd (v := (PV.sl (h.length + 12) 0 12, h ++ smallObjs h.length)) ?_ ?_
  · refine (lit12 _ _ _ _ _ _ _ _ _ _ _ _ _).trans ?_; simp [smallObjs]
  exact bd e1 (bd hix (bd l1 (bd g1 (bd g2 (bd g3 (bd g4 (bd res_int (bd res_int rfl))))))))

set_option maxHeartbeats 1000000 in
theorem wide_calls {h : PHeap} {id m : Nat} (N : Nat) (hN : 3 ≤ N) (hr : Rd h id m) (hm : m ≤ 900000) :
    ∃ (r c : Int) (h' : PHeap), CL g lf N fn_spec_l20Wide [.ptr id 0] h = some (.tup [.int .i64 r, .int .i64 c], h') ∧ Rd h' id (m + 1) ∧ KeepX id h.length h h' ∧ -1 ≤ r ∧ r ≤ 5 ∧ -1 ≤ c ∧ c ≤ 5 := by
  obtain ⟨n, rfl⟩ : ∃ n, N = n + 1 := ⟨N - 1, by omega⟩
  rw [spec_l20Wide.call_eq]
  have hid := hr.lt
  have hrt := hr.keep (Keep.append h.length h (wideObjs h.length) (Nat.le_refl _)) hid
  obtain ⟨v, h1, e1, r1, o1, v0, v1, _⟩ := pick_calls g lf n (by omega) 10 hrt (by omega) (by omega)
  obtain ⟨V, rfl⟩ := Int.eq_ofNat_of_zero_le v0
  have hV : V < 10 := by have := v1 (by omega); omega
  have kx1 : KeepX id (h.length + 11) (h ++ wideObjs h.length) h1 := o1.x
  have kxb : KeepX id h.length h h1 := (Keep.append h.length h (wideObjs h.length) (Nat.le_refl _)).x.trans (kx1.mono (by omega))
  obtain ⟨r, c, l1, cc, hrc⟩ := wide_row h h1 id hid kx1 V hV
  have hix : indexAddrP Tryd.prog 58 (.sl (h.length + 10) 0 10) (.int .i64 (V : Int)) = some (.ptr (h.length + 10) (0 + V)) := by
    have : (V : Int) < 10 := by omega
    simp [indexAddrP, tyBoxU, tyBoxSize, this]
  obtain ⟨g1, g2, g3, g4⟩ := row_get cc
  refine ⟨r, c, h1, ?_, r1, kxb, hrc⟩
  unfold spec_l20Wide.main
  refine bd (v := (PV.sl (h.length + 0) 0 2, h ++ [PObj.own 1 [.int .i64 1, .int .i64 2]])) (by have := lit2 h [] 1 2; simpa using this) ?_
  refine bd (v := (PV.sl (h.length + 1) 0 2, h ++ [PObj.own 1 [.int .i64 1, .int .i64 2], .own 1 [.int .i64 2, .int .i64 3]])) (lit2 h [PObj.own 1 [.int .i64 1, .int .i64 2]] 2 3) ?_
  refine bd (v := (PV.sl (h.length + 2) 0 2, h ++ [PObj.own 1 [.int .i64 1, .int .i64 2], .own 1 [.int .i64 2, .int .i64 3], .own 1 [.int .i64 2, .int .i64 4]])) (lit2 h [PObj.own 1 [.int .i64 1, .int .i64 2], .own 1 [.int .i64 2, .int .i64 3]] 2 4) ?_
  refine bd (v := (PV.sl (h.length + 3) 0 2, h ++ [PObj.own 1 [.int .i64 1, .int .i64 2], .own 1 [.int .i64 2, .int .i64 3], .own 1 [.int .i64 2, .int .i64 4], .own 1 [.int .i64 1, .int .i64 3]])) (lit2 h [PObj.own 1 [.int .i64 1, .int .i64 2], .own 1 [.int .i64 2, .int .i64 3], .own 1 [.int .i64 2, .int .i64 4]] 1 3) ?_
  refine bd (v := (PV.sl (h.length + 4) 0 2, h ++ [PObj.own 1 [.int .i64 1, .int .i64 2], .own 1 [.int .i64 2, .int .i64 3], .own 1 [.int .i64 2, .int .i64 4], .own 1 [.int .i64 1, .int .i64 3], .own 1 [.int .i64 1, .int .i64 4]])) (lit2 h [PObj.own 1 [.int .i64 1, .int .i64 2], .own 1 [.int .i64 2, .int .i64 3], .own 1 [.int .i64 2, .int .i64 4], .own 1 [.int .i64 1, .int .i64 3]] 1 4) ?_
  refine bd (v := (PV.sl (h.length + 5) 0 2, h ++ [PObj.own 1 [.int .i64 1, .int .i64 2], .own 1 [.int .i64 2, .int .i64 3], .own 1 [.int .i64 2, .int .i64 4], .own 1 [.int .i64 1, .int .i64 3], .own 1 [.int .i64 1, .int .i64 4], .own 1 [.int .i64 2, .int .i64 3]])) (lit2 h [PObj.own 1 [.int .i64 1, .int .i64 2], .own 1 [.int .i64 2, .int .i64 3], .own 1 [.int .i64 2, .int .i64 4], .own 1 [.int .i64 1, .int .i64 3], .own 1 [.int .i64 1, .int .i64 4]] 2 3) ?_
  refine bd (v := (PV.sl (h.length + 6) 0 2, h ++ [PObj.own 1 [.int .i64 1, .int .i64 2], .own 1 [.int .i64 2, .int .i64 3], .own 1 [.int .i64 2, .int .i64 4], .own 1 [.int .i64 1, .int .i64 3], .own 1 [.int .i64 1, .int .i64 4], .own 1 [.int .i64 2, .int .i64 3], .own 1 [.int .i64 2, .int .i64 4]])) (lit2 h [PObj.own 1 [.int .i64 1, .int .i64 2], .own 1 [.int .i64 2, .int .i64 3], .own 1 [.int .i64 2, .int .i64 4], .own 1 [.int .i64 1, .int .i64 3], .own 1 [.int .i64 1, .int .i64 4], .own 1 [.int .i64 2, .int .i64 3]] 2 4) ?_
  refine bd (v := (PV.sl (h.length + 7) 0 2, h ++ [PObj.own 1 [.int .i64 1, .int .i64 2], .own 1 [.int .i64 2, .int .i64 3], .own 1 [.int .i64 2, .int .i64 4], .own 1 [.int .i64 1, .int .i64 3], .own 1 [.int .i64 1, .int .i64 4], .own 1 [.int .i64 2, .int .i64 3], .own 1 [.int .i64 2, .int .i64 4], .own 1 [.int .i64 2, .int .i64 2]])) (lit2 h [PObj.own 1 [.int .i64 1, .int .i64 2], .own 1 [.int .i64 2, .int .i64 3], .own 1 [.int .i64 2, .int .i64 4], .own 1 [.int .i64 1, .int .i64 3], .own 1 [.int .i64 1, .int .i64 4], .own 1 [.int .i64 2, .int .i64 3], .own 1 [.int .i64 2, .int .i64 4]] 2 2) ?_
  refine bd (v := (PV.sl (h.length + 8) 0 2, h ++ [PObj.own 1 [.int .i64 1, .int .i64 2], .own 1 [.int .i64 2, .int .i64 3], .own 1 [.int .i64 2, .int .i64 4], .own 1 [.int .i64 1, .int .i64 3], .own 1 [.int .i64 1, .int .i64 4], .own 1 [.int .i64 2, .int .i64 3], .own 1 [.int .i64 2, .int .i64 4], .own 1 [.int .i64 2, .int .i64 2], .own 1 [.int .i64 3, .int .i64 2]])) (lit2 h [PObj.own 1 [.int .i64 1, .int .i64 2], .own 1 [.int .i64 2, .int .i64 3], .own 1 [.int .i64 2, .int .i64 4], .own 1 [.int .i64 1, .int .i64 3], .own 1 [.int .i64 1, .int .i64 4], .own 1 [.int .i64 2, .int .i64 3], .own 1 [.int .i64 2, .int .i64 4], .own 1 [.int .i64 2, .int .i64 2]] 3 2) ?_
  refine bd (v := (PV.sl (h.length + 9) 0 2, h ++ [PObj.own 1 [.int .i64 1, .int .i64 2], .own 1 [.int .i64 2, .int .i64 3], .own 1 [.int .i64 2, .int .i64 4], .own 1 [.int .i64 1, .int .i64 3], .own 1 [.int .i64 1, .int .i64 4], .own 1 [.int .i64 2, .int .i64 3], .own 1 [.int .i64 2, .int .i64 4], .own 1 [.int .i64 2, .int .i64 2], .own 1 [.int .i64 3, .int .i64 2], .own 1 [.int .i64 3, .int .i64 4]])) (lit2 h [PObj.own 1 [.int .i64 1, .int .i64 2], .own 1 [.int .i64 2, .int .i64 3], .own 1 [.int .i64 2, .int .i64 4], .own 1 [.int .i64 1, .int .i64 3], .own 1 [.int .i64 1, .int .i64 4], .own 1 [.int .i64 2, .int .i64 3], .own 1 [.int .i64 2, .int .i64 4], .own 1 [.int .i64 2, .int .i64 2], .own 1 [.int .i64 3, .int .i64 2]] 3 4) ?_
  refine bd (v := (PV.sl (h.length + 10) 0 10, h ++ wideObjs h.length)) ?_ ?_
  · refine (lit10 _ _ _ _ _ _ _ _ _ _ _).trans ?_; simp [wideObjs]
  exact bd e1 (bd hix (bd l1 (bd g1 (bd g2 (bd g3 (bd g4 (bd res_int (bd res_int rfl))))))))

theorem drawOpenings_calls {p : PV} {ys : List Int} {h : PHeap} (N : Nat) (hN : 7 ≤ N) (ha : Arg h p ys) (hlf : 20 < lf) :
    ∃ (r c pl : Int) (h' : PHeap), CL g lf N fn_spec_DrawOpenings [p] h = some (.tup [.int .i64 r, .int .i64 c, .int .i64 pl], h') ∧ Keep h.length h h' ∧ 1 ≤ pl ∧ pl ≤ 4 := by
  obtain ⟨n, rfl⟩ : ∃ n, N = n + 1 := ⟨N - 1, by omega⟩
  have : W (CL g lf (n + 1) fn_spec_DrawOpenings [p] h) fun v h' => ∃ (r c pl : Int), v = .tup [.int .i64 r, .int .i64 c, .int .i64 pl] ∧ Keep h.length h h' ∧ 1 ≤ pl ∧ pl ≤ 4 := by
    obtain ⟨h1, e1, r1, k1⟩ := open_calls g lf n (by omega) ha
    obtain ⟨r, c, h2, e2, r2, k2, _⟩ := small_calls g lf n (by omega) r1 (by omega)
    obtain ⟨b, h3, e3, r3, k3⟩ := odd_calls g lf n (by omega) 30 r2 (by omega) (by omega) (by omega)
    obtain ⟨v1, h4, e4, r4, k4, a1, a2, _⟩ := pick_calls g lf n (by omega) 2 r3 (by omega) (by omega)
    have a2' := a2 (by omega)
    obtain ⟨v2, h5, e5, r5, k5, b1, b2, _⟩ := pick_calls g lf n (by omega) 40 r4 (by omega) (by omega)
    have b2' := b2 (by omega)
    obtain ⟨q39, hq0, hq1⟩ := quo_39 b1 b2'
    have hq2 : v2.tdiv 39 ≤ 1 := by
      obtain ⟨V, rfl⟩ := Int.eq_ofNat_of_zero_le b1
      have : ((V : Int).tdiv 39) = ((V / 39 : Nat) : Int) := rfl
      rw [this]; omega
    have hkk : Keep h.length h h5 := k1.trans (((k2.keep (by have := r1.lt; omega)).trans k3.keep).trans (k4.keep.trans k5.keep))
    obtain ⟨z, hz⟩ : ∃ z, z = v2.tdiv 39 := ⟨_, rfl⟩
    rw [← hz] at q39 hq0 hq2
    rw [spec_DrawOpenings.call_eq]
    unfold spec_DrawOpenings.main
    simp only [env_C, env_bin, env_extract]
    cases b with
    | true =>
      repeat (first | with_reducible refine wT ?_ | with_reducible refine wrI ?_ | with_reducible refine wx0 ?_ | with_reducible refine wx1 ?_ | with_reducible refine wbd (by assumption) ?_ | with_reducible refine wadd (by omega) ?_ | with_reducible refine wmul (by omega) ?_ | dsimp only)
      exact W.ret ⟨3, 3, _, rfl, hkk, by omega, by omega⟩
    | false =>
      repeat (first | with_reducible refine wF ?_ | with_reducible refine wrI ?_ | with_reducible refine wx0 ?_ | with_reducible refine wx1 ?_ | with_reducible refine wbd (by assumption) ?_ | with_reducible refine wadd (by omega) ?_ | with_reducible refine wmul (by omega) ?_ | dsimp only)
      exact W.ret ⟨r, c, _, rfl, hkk, by omega, by omega⟩
  obtain ⟨v, h', e, r, c, pl, rfl, rest⟩ := this
  exact ⟨r, c, pl, h', e, rest⟩

theorem drawPairCell_calls {p : PV} {ys : List Int} {h : PHeap} (N : Nat) (hN : 7 ≤ N) (ha : Arg h p ys) :
    ∃ (r c k : Int) (h' : PHeap), CL g lf N fn_spec_DrawPairCell [p] h = some (.tup [.int .i64 r, .int .i64 c, .int .i64 k], h') ∧ Keep h.length h h' ∧ -1 ≤ r ∧ r ≤ 5 ∧ -1 ≤ c ∧ c ≤ 5 ∧ 0 ≤ k ∧ k ≤ 1000 := by
  obtain ⟨n, rfl⟩ : ∃ n, N = n + 1 := ⟨N - 1, by omega⟩
  have : W (CL g lf (n + 1) fn_spec_DrawPairCell [p] h) fun v h' => ∃ (r c k : Int), v = .tup [.int .i64 r, .int .i64 c, .int .i64 k] ∧ Keep h.length h h' ∧ -1 ≤ r ∧ r ≤ 5 ∧ -1 ≤ c ∧ c ≤ 5 ∧ 0 ≤ k ∧ k ≤ 1000 := by
    obtain ⟨h1, e1, r1, k1⟩ := open_calls g lf n (by omega) ha
    obtain ⟨r, c, h2, e2, r2, k2, hr1, hr2, hc1, hc2⟩ := wide_calls g lf n (by omega) r1 (by omega)
    have hmul : r * c ≤ 25 ∧ -25 ≤ r * c := by
      have : r = -1 ∨ r = 0 ∨ r = 1 ∨ r = 2 ∨ r = 3 ∨ r = 4 ∨ r = 5 := by omega
      rcases this with rfl | rfl | rfl | rfl | rfl | rfl | rfl <;> omega
    obtain ⟨v1, h4, e4, r4, k4, a1, a2, a3⟩ := pick_calls g lf n (by omega) (r * c) r2 (by omega) (by omega)
    have a4 : v1 ≤ 25 := by
      by_cases hh : 1 ≤ r * c
      · have := a2 hh; omega
      · have := a3 (by omega); omega
    obtain ⟨v2, h5, e5, r5, k5, b1, b2, _⟩ := pick_calls g lf n (by omega) 40 r4 (by omega) (by omega)
    have b2' := b2 (by omega)
    obtain ⟨q39, hq0, hq1⟩ := quo_39 b1 b2'
    have hkk : Keep h.length h h5 := k1.trans ((k2.keep (by have := r1.lt; omega)).trans (k4.keep.trans k5.keep))
    obtain ⟨z, hz⟩ : ∃ z, z = v2.tdiv 39 := ⟨_, rfl⟩
    rw [← hz] at q39 hq0 hq1
    rw [spec_DrawPairCell.call_eq]
    unfold spec_DrawPairCell.main
    simp only [env_C, env_bin, env_extract]
    repeat (first | with_reducible refine wrI ?_ | with_reducible refine wx0 ?_ | with_reducible refine wx1 ?_ | with_reducible refine wbd (by assumption) ?_ | with_reducible refine wadd (by omega) ?_ | with_reducible refine wmul (by omega) ?_ | dsimp only)
    exact W.ret ⟨r, c, _, rfl, hkk, hr1, hr2, hc1, hc2, by omega, by omega⟩
  obtain ⟨v, h', e, r, c, k, rfl, rest⟩ := this
  exact ⟨r, c, k, h', e, rest⟩

theorem drawPairFilled_calls {p : PV} {ys : List Int} {h : PHeap} (N : Nat) (hN : 7 ≤ N) (ha : Arg h p ys) :
    ∃ (r c k : Int) (h' : PHeap), CL g lf N fn_spec_DrawPairFilled [p] h = some (.tup [.int .i64 r, .int .i64 c, .int .i64 k], h') ∧ Keep h.length h h' ∧ -1 ≤ r ∧ r ≤ 5 ∧ -1 ≤ c ∧ c ≤ 5 ∧ k ≤ 1000 := by
  obtain ⟨n, rfl⟩ : ∃ n, N = n + 1 := ⟨N - 1, by omega⟩
  have : W (CL g lf (n + 1) fn_spec_DrawPairFilled [p] h) fun v h' => ∃ (r c k : Int), v = .tup [.int .i64 r, .int .i64 c, .int .i64 k] ∧ Keep h.length h h' ∧ -1 ≤ r ∧ r ≤ 5 ∧ -1 ≤ c ∧ c ≤ 5 ∧ k ≤ 1000 := by
    obtain ⟨h1, e1, r1, k1⟩ := open_calls g lf n (by omega) ha
    obtain ⟨r, c, h2, e2, r2, k2, hr1, hr2, hc1, hc2⟩ := wide_calls g lf n (by omega) r1 (by omega)
    obtain ⟨v1, h4, e4, r4, k4, a1, a2, a3⟩ := pick_calls g lf n (by omega) 256 r2 (by omega) (by omega)
    have a4 := a2 (by omega)
    obtain ⟨v2, h5, e5, r5, k5, b1, b2, _⟩ := pick_calls g lf n (by omega) 40 r4 (by omega) (by omega)
    have b2' := b2 (by omega)
    obtain ⟨q39, hq0, hq1⟩ := quo_39 b1 b2'
    have hkk : Keep h.length h h5 := k1.trans ((k2.keep (by have := r1.lt; omega)).trans (k4.keep.trans k5.keep))
    obtain ⟨z, hz⟩ : ∃ z, z = v2.tdiv 39 := ⟨_, rfl⟩
    rw [← hz] at q39 hq0 hq1
    rw [spec_DrawPairFilled.call_eq]
    unfold spec_DrawPairFilled.main
    simp only [env_C, env_bin, env_extract]
    repeat (first | with_reducible refine wrI ?_ | with_reducible refine wx0 ?_ | with_reducible refine wx1 ?_ | with_reducible refine wbd (by assumption) ?_ | with_reducible refine wsub (by omega) ?_ | with_reducible refine wmul (by omega) ?_ | dsimp only)
    exact W.ret ⟨r, c, _, rfl, hkk, hr1, hr2, hc1, hc2, by omega⟩
  obtain ⟨v, h', e, r, c, k, rfl, rest⟩ := this
  exact ⟨r, c, k, h', e, rest⟩

end Go.Proofs.YtlfjjjhjjmikfaaDoor

/- Stolen plans and pairs that answer: what chapter 4's functions tell, and what holds of it. No program text. -/
namespace Go.Proofs.YtlfjjjhjjmikfaaDoor
open Go Go.Ip G

/-! ### pairs -/
/-- The partner of a cell, -1 if it has none. -/
def pairI (R C k : Nat) : Int := if R < k % C then -1 else if k / C < k % C then (((k % C - 1) * C + k / C : Nat) : Int) else ((k % C * C + k / C + 1 : Nat) : Int)
def wides : List (Nat × Nat) := [(1, 2), (1, 3), (1, 4), (2, 3), (2, 4)]
theorem wide_mem {R C : Nat} (hB : BoardOf R C) (h : R < C) : (R, C) ∈ wides := by
  obtain ⟨h1, h2, h3, h4, h9⟩ := hB
  have : C = 1 ∨ C = 2 ∨ C = 3 ∨ C = 4 := by omega
  rcases this with rfl | rfl | rfl | rfl <;> (have : R = 1 ∨ R = 2 ∨ R = 3 := by omega) <;> rcases this with rfl | rfl | rfl <;> first | omega | decide
def pairB (R C k : Nat) : Bool :=
  decide (-1 ≤ pairI R C k ∧ pairI R C k < ((R * C : Nat) : Int)) && (decide (pairI R C k < 0) || (decide (pairI R C k ≠ (k : Int)) && decide (pairI R C (pairI R C k).toNat = (k : Int)))) && (decide (C ≠ R + 1) || decide (0 ≤ pairI R C k))
theorem pair_all : (wides.all fun b => (List.range (b.1 * b.2)).all (pairB b.1 b.2)) = true := by kernel_rfl
theorem pair_ok {R C k : Nat} (hB : BoardOf R C) (h : R < C) (hk : k < R * C) : pairB R C k = true :=
  List.all_eq_true.1 (List.all_eq_true.1 pair_all (R, C) (wide_mem hB h)) k (List.mem_range.2 hk)
theorem pair_facts {R C k : Nat} (hB : BoardOf R C) (h : R < C) (hk : k < R * C) : (pairI R C k = -1 ∧ C ≠ R + 1) ∨ ∃ p : Nat, pairI R C k = (p : Int) ∧ p < R * C ∧ p ≠ k ∧ pairI R C p = (k : Int) := by
  have := pair_ok hB h hk
  unfold pairB at this
  simp only [Bool.and_eq_true, Bool.or_eq_true, decide_eq_true_eq] at this
  obtain ⟨⟨⟨h1, h2⟩, h3⟩, h4⟩ := this
  rcases h3 with h3 | ⟨h3, h5⟩
  · left; exact ⟨by omega, by rcases h4 with h4 | h4 <;> omega⟩
  · by_cases hn : pairI R C k < 0
    · left; exact ⟨by omega, by rcases h4 with h4 | h4 <;> omega⟩
    · obtain ⟨p, hp⟩ := Int.eq_ofNat_of_zero_le (show 0 ≤ pairI R C k by omega)
      rw [hp] at h5 h2 h3
      exact .inr ⟨p, hp, by omega, by omega, h5⟩

/-- A set that has one of each pair joins the first player's sides. -/
def sharedB (R C S : Nat) : Bool := (List.range (R * C)).all fun k => decide (pairI R C k < 0) || S.testBit k || S.testBit (pairI R C k).toNat
theorem shared_all : (wides.all fun b => (List.range (2 ^ (b.1 * b.2))).all fun S => !sharedB b.1 b.2 S || joinsN b.1 b.2 1 S) = true := by kernel_rfl
theorem shared_joins {R C S : Nat} (hB : BoardOf R C) (h : R < C) (hS : S < 2 ^ (R * C)) (hs : ∀ k p : Nat, k < R * C → pairI R C k = (p : Int) → S.testBit k = true ∨ S.testBit p = true) : joinsN R C 1 S = true := by
  have := List.all_eq_true.1 (List.all_eq_true.1 shared_all (R, C) (wide_mem hB h)) S (List.mem_range.2 hS)
  have hsh : sharedB R C S = true := by
    unfold sharedB
    rw [List.all_eq_true]
    intro k hk
    rcases pair_facts hB h (List.mem_range.1 hk) with ⟨e, _⟩ | ⟨p, e, _⟩
    · rw [e]; rfl
    · rw [e]
      have := hs k p (List.mem_range.1 hk) e
      rw [Bool.or_assoc, show ((p : Int).toNat) = p from rfl]
      rcases this with h | h <;> rw [h] <;> simp
  have h2 : (!sharedB R C S || joinsN R C 1 S) = true := this
  rw [hsh] at h2; exact h2

/-- With a stone on no whole pair the second player has not joined. -/
theorem second_not {R C b : Nat} (hB : BoardOf R C) (h : R < C) (hb : b < 2 ^ (R * C)) (hs : ∀ k p : Nat, k < R * C → pairI R C k = (p : Int) → b.testBit k = true → b.testBit p = false) : joinsN R C 2 b = false := by
  have hc : 2 ^ (R * C) - 1 - b < 2 ^ (R * C) := by have := Nat.two_pow_pos (R * C); omega
  have h1 := shared_joins hB h hc fun k p hk e => by
    rw [compl_bit hb, compl_bit hb]
    rcases pair_facts hB h hk with ⟨e', _⟩ | ⟨p', e', hp', _⟩
    · rw [e] at e'; omega
    · have hpp : p = p' := by rw [e] at e'; omega
      cases hkb : b.testBit k with
      | false => left; simp [hk]
      | true => right; rw [hs k p hk e hkb]; simp; omega
  have h2 := hex hB (P := 2) (.inr rfl) hb
  rw [show 3 - 2 = 1 from rfl, h1] at h2; exact h2

/-- Each stone of the second player is answered: the partner's cell has one of the first player. -/
def Paired (R C a b : Nat) : Prop := ∀ k p : Nat, k < R * C → pairI R C k = (p : Int) → b.testBit k = true → a.testBit p = true

theorem pair_wins {R C : Nat} (hB : BoardOf R C) (h : R < C) : ∀ (m a b : Nat), frN (R * C) a b ≤ m → Pos R C a b → Paired R C a b → winN R C a b 2 = 1 := by
  intro m
  induction m using Nat.strongRecOn with
  | _ m ih =>
  intro a b hm hp hpa
  have hno : joinsN R C 2 b = false := second_not hB h hp.2.1 fun k p hk e hb => by
    have := hpa k p hk e hb
    cases e2 : b.testBit p with
    | false => rfl
    | true => exact (hp.2.2 p this e2).elim
  cases j1 : joinsN R C 1 a with
  | true => exact win_first j1
  | false =>
  rw [win_open j1 hno, if_neg]
  intro hmv
  obtain ⟨k, hk, hf, hw⟩ := moveB_iff.1 hmv
  have hfr := fr_put (t := 2) hk hf
  have hpp := hp.put (t := 2) hk hf
  have hfk := hf
  rw [Nat.testBit_or, Bool.or_eq_false_iff] at hfk
  have hbit : ∀ j, (b ||| (1 <<< k)).testBit j = (b.testBit j || decide (j = k)) := with_bit b k
  have ans : winN R C (putA 2 k a) (putB 2 k b) 1 = 1 := by
    by_cases hpart : ∃ p : Nat, pairI R C k = (p : Int) ∧ p < R * C ∧ p ≠ k ∧ pairI R C p = (k : Int) ∧ (a ||| b).testBit p = false
    · obtain ⟨p, e, hpn, hne, e', hpf⟩ := hpart
      have hpf2 : (putA 2 k a ||| putB 2 k b).testBit p = false := by rw [put_bit, hpf]; simp [hne]
      have hppp := hpp.put (t := 1) hpn hpf2
      have hfr2 := fr_put (t := 1) hpn hpf2
      have hno2 : joinsN R C 2 (putB 2 k b) = false := second_not hB h hpp.2.1 fun i q hi eq hb => by
        show (b ||| (1 <<< k)).testBit q = false
        have hb' : (b ||| (1 <<< k)).testBit i = true := hb
        rw [hbit, Bool.or_eq_true, decide_eq_true_eq] at hb'
        rw [hbit, Bool.or_eq_false_iff, decide_eq_false_iff_not]
        rcases hb' with hb' | rfl
        · have ha := hpa i q hi eq hb'
          refine ⟨?_, fun hqk => ?_⟩
          · cases e2 : b.testBit q with
            | false => rfl
            | true => exact (hp.2.2 q ha e2).elim
          · subst hqk; rw [hfk.1] at ha; cases ha
        · have hqp : q = p := by rw [e] at eq; omega
          subst hqp
          rw [Nat.testBit_or, Bool.or_eq_false_iff] at hpf
          exact ⟨hpf.2, hne⟩
      cases j3 : joinsN R C 1 (putA 2 k a) with
      | true => exact win_first j3
      | false =>
        rw [win_open j3 hno2, if_pos]
        refine moveB_iff.2 ⟨p, hpn, hpf2, ?_⟩
        refine ih (m - 1 - 1) (by omega) _ _ (by omega) hppp fun i q hi eq hb => ?_
        have hb' : (b ||| (1 <<< k)).testBit i = true := hb
        show (a ||| (1 <<< p)).testBit q = true
        rw [hbit, Bool.or_eq_true, decide_eq_true_eq] at hb'
        rw [with_bit, Bool.or_eq_true, decide_eq_true_eq]
        rcases hb' with hb' | rfl
        · exact .inl (hpa i q hi eq hb')
        · right; rw [e] at eq; omega
    · refine win_move hB hpp (ih (m - 1) (by omega) _ _ (by omega) hpp fun i q hi eq hb => ?_)
      have hb' : (b ||| (1 <<< k)).testBit i = true := hb
      show a.testBit q = true
      rw [hbit, Bool.or_eq_true, decide_eq_true_eq] at hb'
      rcases hb' with hb' | rfl
      · exact hpa i q hi eq hb'
      · rcases pair_facts hB h hk with ⟨e', _⟩ | ⟨p', e', hp', hne', hback⟩
        · rw [eq] at e'; omega
        · have hqp : q = p' := by rw [eq] at e'; omega
          subst hqp
          cases e2 : (a ||| b).testBit q with
          | false => exact (hpart ⟨q, eq, hp', hne', hback, e2⟩).elim
          | true =>
            rw [Nat.testBit_or, Bool.or_eq_true] at e2
            rcases e2 with e2 | e2
            · exact e2
            · have := hpa q i hp' hback e2
              rw [hfk.1] at this; cases this
  rw [show (3 : Nat) - 2 = 1 from rfl, ans] at hw; cases hw

theorem pos_zero (R C : Nat) : Pos R C 0 0 := ⟨Nat.two_pow_pos _, Nat.two_pow_pos _, fun j h => by rw [Nat.zero_testBit] at h; cases h⟩
theorem wide_wins {R C : Nat} (hB : BoardOf R C) (h : R < C) : winN R C 0 0 1 = 1 ∧ winN R C 0 0 2 = 1 := by
  have := pair_wins hB h _ 0 0 (Nat.le_refl _) (pos_zero R C) fun k p _ _ hb => by rw [Nat.zero_testBit] at hb; cases hb
  exact ⟨win_move hB (pos_zero R C) this, this⟩

/-! ### pairs that are shared -/
def pfF (R C : Nat) : Nat → Nat → List Int → Nat → List Int
  | 0, _, out, _ => out
  | m + 1, k, out, ch =>
    if pairI R C k < 0 then pfF R C m (k + 1) (out.set k 2) ch
    else if (k : Int) < pairI R C k then
      if ch % 2 = 1 then pfF R C m (k + 1) ((out.set k 1).set (pairI R C k).toNat 2) (ch / 2) else pfF R C m (k + 1) ((out.set k 2).set (pairI R C k).toNat 1) (ch / 2)
    else pfF R C m (k + 1) out ch
def pairFillN (R C ch : Nat) : List Int := pfF R C (R * C) 0 (List.replicate (R * C) 0) ch
theorem pfF_mod (R C : Nat) : ∀ (m k : Nat) (out : List Int) (ch : Nat), pfF R C m k out ch = pfF R C m k out (ch % 2 ^ m)
  | 0, _, _, _ => rfl
  | m + 1, k, out, ch => by
    rw [pfF, pfF]
    have e1 : ch % 2 ^ (m + 1) % 2 = ch % 2 := Nat.mod_mod_of_dvd _ ⟨2 ^ m, by rw [Nat.pow_succ, Nat.mul_comm]⟩
    have e2 : ch % 2 ^ (m + 1) / 2 = ch / 2 % 2 ^ m := by rw [Nat.pow_succ, Nat.mul_comm, Nat.mod_mul_right_div_self]
    have e3 : ch % 2 ^ (m + 1) % 2 ^ m = ch % 2 ^ m := Nat.mod_mod_of_dvd _ ⟨2, by rw [Nat.pow_succ]⟩
    rw [e1, e2]
    rw [pfF_mod R C m (k + 1) (out.set k 2) ch, pfF_mod R C m (k + 1) (out.set k 2) (ch % 2 ^ (m + 1)), e3]
    rw [pfF_mod R C m (k + 1) out ch, pfF_mod R C m (k + 1) out (ch % 2 ^ (m + 1)), e3]
    rw [pfF_mod R C m (k + 1) _ (ch / 2)]
    rw [pfF_mod R C m (k + 1) ((out.set k 2).set (pairI R C k).toNat 1) (ch / 2)]
def fillOkB (R C : Nat) (x : List Int) : Bool := decide (x.length = R * C) && x.all (fun v => decide (v = 1) || decide (v = 2)) && joinsN R C 1 (setL x 1)
theorem fill_all : (wides.all fun b => (List.range (2 ^ (b.1 * b.2))).all fun ch => fillOkB b.1 b.2 (pairFillN b.1 b.2 ch)) = true := by kernel_rfl
theorem fill_ok {R C : Nat} (hB : BoardOf R C) (h : R < C) (ch : Nat) : fillOkB R C (pairFillN R C ch) = true := by
  unfold pairFillN
  rw [pfF_mod]
  exact List.all_eq_true.1 (List.all_eq_true.1 fill_all (R, C) (wide_mem hB h)) (ch % 2 ^ (R * C)) (List.mem_range.2 (Nat.mod_lt _ (Nat.two_pow_pos _)))

/-! ### openings -/
def freeL (R C : Nat) : List Int := List.replicate (R * C) 0
theorem free_pos {R C : Nat} (hB : BoardOf R C) : posB (R : Int) (C : Int) (freeL R C) = true := by
  obtain ⟨h1, h2, h3, h4, h9⟩ := hB
  refine posB_free ?_ (by rw [Int.natCast_mul])
  unfold boardB
  have : ((R : Int) * (C : Int)) ≤ 9 := by rw [← Int.natCast_mul]; omega
  exact decide_eq_true ⟨by omega, by omega, by omega, by omega, this⟩
theorem free_set (R C : Nat) {w : Int} (hw : w ≠ 0) : setL (freeL R C) w = 0 := by
  apply Nat.eq_of_testBit_eq
  intro j
  rw [Nat.zero_testBit]
  cases e : (setL (freeL R C) w).testBit j with
  | false => rfl
  | true =>
    rw [setL_bit] at e
    unfold freeL at e
    rw [List.getElem?_replicate] at e
    split at e
    · exact absurd (Option.some.inj e).symm hw
    · cases e
theorem zero_not {R C P : Nat} : joinsN R C P 0 = false := by
  cases e : joinsN R C P 0 with
  | false => rfl
  | true =>
    obtain ⟨j, _, hr⟩ := (joins_iff (by decide)).1 e
    have := hr.inSet
    rw [Nat.zero_testBit] at this; cases this
theorem sides_free {R C : Nat} (hB : BoardOf R C) : Sides (R : Int) (C : Int) R C (freeL R C) := by
  obtain ⟨R', C', hS⟩ := sides_of (free_pos hB)
  have e1 : R' = R := by have := hS.1; omega
  have e2 : C' = C := by have := hS.2.1; omega
  rw [e1, e2] at hS; exact hS
theorem free_joins {R C : Nat} (hB : BoardOf R C) : joinsL (R : Int) (C : Int) (freeL R C) 1 = false ∧ joinsL (R : Int) (C : Int) (freeL R C) 2 = false := by
  have hb := free_pos hB
  rw [joins_one hb, joins_two hb, free_set R C (by decide), free_set R C (by decide)]
  exact ⟨zero_not, zero_not⟩
theorem free_winL {R C T : Nat} (hB : BoardOf R C) (hT : T = 1 ∨ T = 2) : winL (R : Int) (C : Int) (freeL R C) (T : Int) = ((winN R C 0 0 T : Nat) : Int) := by
  rw [winL_eq (free_pos hB) hT, free_set R C (by decide), free_set R C (by decide)]

/-- Who moves first wins on square boards. -/
theorem square_wins {R : Nat} (hB : BoardOf R R) {T : Nat} (hT : T = 1 ∨ T = 2) : winN R R 0 0 T = T := by
  have hmz : moved (sig R R) 0 (R * R) = 0 := by
    apply Nat.eq_of_testBit_eq
    intro j
    rw [Nat.zero_testBit]
    cases e : (moved (sig R R) 0 (R * R)).testBit j with
    | false => rfl
    | true =>
      obtain ⟨k, _, hk, _⟩ := (moved_bit _ _ _ _).1 e
      rw [Nat.zero_testBit] at hk; cases hk
  have h12 := winN_swapped (f := sig R R) hB rfl (perm_sig hB) (fun S h => (hex_moves hB h).2.2.1) (fun S h => (hex_moves hB h).2.2.2) _ 0 0 1 (Nat.le_refl _) (pos_zero R R) (.inl rfl)
  rw [hmz] at h12
  have h12' : winN R R 0 0 2 = 3 - winN R R 0 0 1 := h12
  have h1 : winN R R 0 0 1 = 1 := by
    rcases win_cases (R := R) (C := R) (a := 0) (b := 0) (t := 1) (.inl rfl) with h | h
    · exact h
    · rw [h] at h12'
      rw [win_move hB (pos_zero R R) h12'] at h; cases h
  rcases hT with rfl | rfl
  · exact h1
  · rw [h12', h1]

theorem free_reverse {R C k : Nat} {P : Int} (hk : k < R * C) : ((freeL R C).set k P).reverse = (freeL R C).set (R * C - 1 - k) P := by
  apply List.ext_getElem?
  intro j
  unfold freeL
  by_cases hj : j < R * C
  · rw [List.getElem?_reverse (by simp; exact hj), List.getElem?_set, List.getElem?_set, List.length_set, List.length_replicate]
    by_cases e : k = R * C - 1 - j
    · rw [if_pos e, if_pos (by omega), if_pos (show R * C - 1 - k = j by omega), if_pos (by omega)]
    · rw [if_neg e, if_neg (show ¬ R * C - 1 - k = j by omega), List.getElem?_replicate, List.getElem?_replicate, if_pos (by omega), if_pos hj]
  · rw [List.getElem?_eq_none (by simp; omega), List.getElem?_eq_none (by simp; omega)]

theorem free_mirror {R C k P : Nat} (hB : BoardOf R C) (hP : P = 1 ∨ P = 2) (hk : k < R * C) : mir R C ((freeL R C).set k (P : Int)) = (freeL C R).set (sig C R k) ((3 - P : Nat) : Int) := by
  have hpm := perm_sig hB
  obtain ⟨h1, h2, h3, h4, h9⟩ := hB
  have hlen : ((freeL R C).set k (P : Int)).length = R * C := by simp [freeL]
  apply List.ext_getElem?
  intro j
  by_cases hj : j < R * C
  · rw [mir_get (by rw [hlen]; exact hj), List.getElem?_set]
    have hs : sig R C j < R * C := (sig_lt h1 h2 h3 h4 h9 hj).1
    have hb : sig C R (sig R C j) = j := (sig_lt h1 h2 h3 h4 h9 hj).2
    have hlC : (freeL C R).length = R * C := by simp [freeL, Nat.mul_comm]
    rw [List.getD_eq_getElem?_getD, List.getElem?_set]
    have hlR : (freeL R C).length = R * C := by simp [freeL]
    by_cases e : k = sig R C j
    · have e2 : sig C R k = j := by rw [e]; exact hb
      rw [if_pos e, if_pos (by rw [hlR]; exact hk), if_pos e2, if_pos (by rw [hlC, e2]; exact hj)]
      show some (swapI (P : Int)) = _
      rw [swap_player hP]
    · have e2 : ¬ sig C R k = j := fun hh => e (hpm.inj k (sig R C j) hk hs (by rw [hb]; exact hh))
      rw [if_neg e, if_neg e2]
      unfold freeL
      rw [List.getElem?_replicate, List.getElem?_replicate, if_pos hs, if_pos (by rw [Nat.mul_comm]; exact hj)]
      rfl
  · have l1 : (mir R C ((freeL R C).set k (P : Int))).length = R * C := by rw [mir_length, hlen]
    have l2 : ((freeL C R).set (sig C R k) ((3 - P : Nat) : Int)).length = R * C := by simp [freeL, Nat.mul_comm]
    rw [List.getElem?_eq_none (by omega), List.getElem?_eq_none (by omega)]

theorem free_get {R C k : Nat} : (freeL R C)[k]? = some 0 ↔ k < R * C := by
  unfold freeL
  rw [List.getElem?_replicate]
  split
  · rename_i h; simp [h]
  · rename_i h; simp [h]
theorem open_iff {R C P k : Nat} (hB : BoardOf R C) (hP : P = 1 ∨ P = 2) : winsB (R : Int) (C : Int) (freeL R C) (P : Int) k = true ↔ k < R * C ∧ winL (R : Int) (C : Int) ((freeL R C).set k (P : Int)) ((3 - P : Nat) : Int) = (P : Int) := by
  rw [winsB_iff, moveL_iff, free_get, show (3 : Int) - (P : Int) = ((3 - P : Nat) : Int) by omega]
  have hj := free_joins hB
  exact ⟨fun h => ⟨h.1.2.2.1, h.2⟩, fun h => ⟨⟨free_pos hB, playerB_of hP, h.1, hj.1, hj.2⟩, h.2⟩⟩
theorem open_turn {R C P k : Nat} (hB : BoardOf R C) (hP : P = 1 ∨ P = 2) (h : winsB (R : Int) (C : Int) (freeL R C) (P : Int) k = true) : winsB (R : Int) (C : Int) (freeL R C) (P : Int) (R * C - 1 - k) = true := by
  obtain ⟨hk, hw⟩ := (open_iff hB hP).1 h
  refine (open_iff hB hP).2 ⟨by omega, ?_⟩
  have hb := pos_set (free_pos hB) hP k
  have hS := sides_set (free_pos hB) (sides_free hB) (k := k) hP
  have hO : 3 - P = 1 ∨ 3 - P = 2 := by omega
  rw [← free_reverse hk, winL_turned hb hS hO (by rw [free_reverse hk]; exact pos_set (free_pos hB) hP _)]
  exact hw
theorem open_mir {R C P k : Nat} (hB : BoardOf R C) (hP : P = 1 ∨ P = 2) (hk : k < R * C) : winsB (C : Int) (R : Int) (freeL C R) ((3 - P : Nat) : Int) (sig C R k) = winsB (R : Int) (C : Int) (freeL R C) (P : Int) k := by
  have hB' := board_swap hB
  have hO : 3 - P = 1 ∨ 3 - P = 2 := by omega
  have hb := pos_set (free_pos hB) hP k
  have hS := sides_set (free_pos hB) (sides_free hB) (k := k) hP
  have hm := free_mirror hB hP hk
  have hb' := pos_set (free_pos hB') hO (sig C R k)
  have hlt := (perm_sig hB).lt k hk
  have hw := winL_mirrored hb hS hO (by rw [hm]; exact hb')
  rw [hm] at hw
  have e1 : 3 - (3 - P) = P := by omega
  rw [e1] at hw
  obtain ⟨V, hV, hV2⟩ := winL_cases hb hO
  rw [Bool.eq_iff_iff, open_iff hB' hO, open_iff hB hP, e1, hw, hV]
  have : C * R = R * C := Nat.mul_comm _ _
  constructor
  · rintro ⟨_, h⟩; exact ⟨hk, by omega⟩
  · rintro ⟨_, h⟩; exact ⟨by omega, by omega⟩
theorem open_count {R C P : Nat} (hB : BoardOf R C) (hP : P = 1 ∨ P = 2) : (winCellsL (C : Int) (R : Int) (freeL C R) ((3 - P : Nat) : Int)).length = (winCellsL (R : Int) (C : Int) (freeL R C) (P : Int)).length := by
  unfold winCellsL
  rw [List.length_map, List.length_map, ← List.countP_eq_length_filter, ← List.countP_eq_length_filter]
  have e1 : (freeL C R).length = R * C := by simp [freeL, Nat.mul_comm]
  have e2 : (freeL R C).length = R * C := by simp [freeL]
  rw [e1, e2]
  obtain ⟨h1, h2, h3, h4, h9⟩ := id hB
  have hperm : ((List.range (R * C)).map (sig C R)).Perm (List.range (R * C)) := by
    have := sig_perm (R := C) (C := R) h4 h2 (by rw [Nat.mul_comm]; exact h9)
    rw [Nat.mul_comm C R] at this; exact this
  rw [← hperm.countP_eq, List.countP_map]
  apply List.countP_congr
  intro k hk
  show winsB _ _ _ _ (sig C R k) = true ↔ _
  rw [open_mir hB hP (List.mem_range.1 hk)]

end Go.Proofs.YtlfjjjhjjmikfaaDoor

/- Fillings: how many of them a player wins, which cells matter, and that stones on cells that do not matter change nothing. No program text. -/
namespace Go.Proofs.YtlfjjjhjjmikfaaDoor
open Go Go.Ip G

/-! ### counting over all fillings of some cells -/
def cntN (J : Nat → Bool) : Nat → List Nat → Nat
  | s, [] => if J s = true then 1 else 0
  | s, c :: l => cntN J s l + cntN J (s ||| (1 <<< c)) l
/-- The filling that a number tells. -/
def fillN : List Nat → Nat → Nat
  | [], _ => 0
  | c :: l, m => ((m % 2) <<< c) ||| fillN l (m / 2)

theorem countP_double (p : Nat → Bool) : ∀ n, (List.range (2 * n)).countP p = (List.range n).countP (fun m => p (2 * m)) + (List.range n).countP (fun m => p (2 * m + 1))
  | 0 => rfl
  | n + 1 => by
    rw [show 2 * (n + 1) = 2 * n + 1 + 1 by omega, List.range_succ, List.range_succ, List.range_succ, List.countP_append, List.countP_append, countP_double p n, List.countP_append, List.countP_append]
    simp only [List.countP_singleton]
    omega
theorem cnt_range (J : Nat → Bool) : ∀ (l : List Nat) (s : Nat), (List.range (2 ^ l.length)).countP (fun m => J (s ||| fillN l m)) = cntN J s l
  | [], s => by simp [fillN, cntN, List.countP_cons]
  | c :: l, s => by
    rw [List.length_cons, Nat.pow_succ, Nat.mul_comm, countP_double, cntN, ← cnt_range J l s, ← cnt_range J l (s ||| (1 <<< c))]
    congr 1
    · apply List.countP_congr
      intro m _
      have e1 : 2 * m % 2 = 0 := by omega
      have e2 : 2 * m / 2 = m := by omega
      rw [fillN, e1, e2, Nat.zero_shiftLeft, Nat.zero_or]
    · apply List.countP_congr
      intro m _
      have e1 : (2 * m + 1) % 2 = 1 := by omega
      have e2 : (2 * m + 1) / 2 = m := by omega
      rw [fillN, e1, e2, Nat.or_assoc]

theorem cnt_congr {J J' : Nat → Bool} (h : ∀ S, J S = J' S) (s : Nat) (l : List Nat) : cntN J s l = cntN J' s l := by rw [show J = J' from funext h]
theorem cnt_le (J : Nat → Bool) : ∀ (l : List Nat) (s : Nat), cntN J s l ≤ 2 ^ l.length
  | [], s => by rw [cntN]; split <;> decide
  | c :: l, s => by
    have h1 := cnt_le J l s
    have h2 := cnt_le J l (s ||| (1 <<< c))
    rw [cntN, List.length_cons, Nat.pow_succ]; omega
theorem cnt_perm {J : Nat → Bool} {l l' : List Nat} (h : l.Perm l') : ∀ s, cntN J s l = cntN J s l' := by
  induction h with
  | nil => intro s; rfl
  | cons c _ ih => intro s; rw [cntN, cntN, ih, ih]
  | swap c d l =>
    intro s
    rw [cntN, cntN, cntN, cntN, cntN, cntN]
    have : s ||| 1 <<< c ||| 1 <<< d = s ||| 1 <<< d ||| 1 <<< c := by rw [Nat.or_assoc, Nat.or_comm (1 <<< c), ← Nat.or_assoc]
    rw [this]; omega
  | trans _ _ ih1 ih2 => intro s; rw [ih1, ih2]
/-- Nothing is won: no filling is. -/
theorem cnt_zero {J : Nat → Bool} : ∀ {l : List Nat} {s : Nat}, cntN J s l = 0 → ∀ F, (∀ j, F.testBit j = true → j ∈ l) → J (s ||| F) = false
  | [], s, h, F, hF => by
    have : F = 0 := Nat.eq_of_testBit_eq fun j => by
      rw [Nat.zero_testBit]
      cases e : F.testBit j with
      | false => rfl
      | true => have := hF j e; cases this
    rw [this, Nat.or_zero]
    rw [cntN] at h
    cases e : J s with
    | false => rfl
    | true => rw [e] at h; exact absurd h (by decide)
  | c :: l, s, h, F, hF => by
    rw [cntN] at h
    by_cases e : F.testBit c = true
    · have hw : s ||| F = (s ||| (1 <<< c)) ||| without F c := by
        apply Nat.eq_of_testBit_eq; intro j
        rw [Nat.testBit_or, Nat.testBit_or, with_bit, without_bit]
        by_cases hj : j = c
        · subst hj; simp [e]
        · simp [hj]
      rw [hw]
      refine cnt_zero (l := l) (by omega) _ fun j hj => ?_
      rw [without_bit, Bool.and_eq_true, decide_eq_true_eq] at hj
      exact (List.mem_cons.1 (hF j hj.1)).resolve_left hj.2
    · refine cnt_zero (l := l) (by omega) F fun j hj => ?_
      refine (List.mem_cons.1 (hF j hj)).resolve_left fun hh => ?_
      subst hh; exact e hj
theorem cnt_pos {J : Nat → Bool} {l : List Nat} {s : Nat} : 0 < cntN J s l ↔ ∃ m, m < 2 ^ l.length ∧ J (s ||| fillN l m) = true := by
  rw [← cnt_range, List.countP_pos_iff]
  constructor
  · rintro ⟨m, h1, h2⟩; exact ⟨m, List.mem_range.1 h1, h2⟩
  · rintro ⟨m, h1, h2⟩; exact ⟨m, List.mem_range.2 h1, h2⟩

/-! ### what a stone more is worth -/
def MonoB (J : Nat → Bool) : Prop := ∀ S T, S < 2 ^ 9 → T < 2 ^ 9 → (∀ j, S.testBit j = true → T.testBit j = true) → J S = true → J T = true
theorem joins_monoB (R C P : Nat) : MonoB (joinsN R C P) := fun _ _ hS hT h hj => joins_mono hS hT h hj
/-- A stone on c decides. -/
def pivJ (J : Nat → Bool) (c S : Nat) : Bool := J (S ||| (1 <<< c)) && !J S
theorem or_swap (s c d : Nat) : s ||| 1 <<< c ||| 1 <<< d = s ||| 1 <<< d ||| 1 <<< c := by rw [Nat.or_assoc, Nat.or_comm (1 <<< c), ← Nat.or_assoc]
theorem cnt_pivot {J : Nat → Bool} (hJ : MonoB J) {c : Nat} (hc : c < 9) : ∀ {l : List Nat} {s : Nat}, s < 2 ^ 9 → (∀ j ∈ l, j < 9) → cntN (pivJ J c) s l + cntN J s l = cntN J (s ||| (1 <<< c)) l
  | [], s, hs, _ => by
    rw [cntN, cntN, cntN]
    unfold pivJ
    have hm := hJ s (s ||| (1 <<< c)) hs (with_lt hs hc) (fun j hj => by rw [with_bit, hj]; rfl)
    cases e1 : J s with
    | true => rw [hm e1]; rfl
    | false => cases e2 : J (s ||| 1 <<< c) <;> rfl
  | d :: l, s, hs, hl => by
    have hd := hl d (List.mem_cons_self ..)
    have h1 := cnt_pivot hJ hc (l := l) hs fun j hj => hl j (List.mem_cons_of_mem _ hj)
    have h2 := cnt_pivot hJ hc (l := l) (with_lt hs hd) fun j hj => hl j (List.mem_cons_of_mem _ hj)
    rw [cntN, cntN, cntN, or_swap s c d]
    omega
theorem cnt_mono {J : Nat → Bool} (hJ : MonoB J) {c : Nat} (hc : c < 9) {l : List Nat} {s : Nat} (hs : s < 2 ^ 9) (hl : ∀ j ∈ l, j < 9) : cntN J s l ≤ cntN J (s ||| (1 <<< c)) l := by
  have := cnt_pivot hJ hc hs hl; omega

/-! ### each filling is won by one -/
/-- A position whose free cells are those of a list. -/
structure Cover (R C a b : Nat) (l : List Nat) : Prop where
  pos : Pos R C a b
  nodup : l.Nodup
  free : ∀ j, j ∈ l ↔ j < R * C ∧ (a ||| b).testBit j = false
theorem Cover.put {R C a b c : Nat} {l : List Nat} (h : Cover R C a b (c :: l)) (t : Nat) : Cover R C (putA t c a) (putB t c b) l := by
  have hc := (h.free c).1 (List.mem_cons_self ..)
  have hnd := List.nodup_cons.1 h.nodup
  refine ⟨h.pos.put hc.1 hc.2, hnd.2, fun j => ?_⟩
  rw [put_bit, Bool.or_eq_false_iff, decide_eq_false_iff_not]
  constructor
  · intro hj
    have := (h.free j).1 (List.mem_cons_of_mem _ hj)
    exact ⟨this.1, this.2, fun e => hnd.1 (e ▸ hj)⟩
  · rintro ⟨h1, h2, h3⟩
    exact (List.mem_cons.1 ((h.free j).2 ⟨h1, h2⟩)).resolve_left h3
theorem Cover.full {R C a b : Nat} (h : Cover R C a b []) : 2 ^ (R * C) - 1 - a = b := by
  apply Nat.eq_of_testBit_eq
  intro j
  rw [compl_bit h.pos.1]
  by_cases hj : j < R * C
  · have hab : (a ||| b).testBit j = true := by
      cases e : (a ||| b).testBit j with
      | true => rfl
      | false => have := (h.free j).2 ⟨hj, e⟩; cases this
    rw [Nat.testBit_or, Bool.or_eq_true] at hab
    cases ea : a.testBit j with
    | true =>
      cases eb : b.testBit j with
      | false => simp
      | true => exact (h.pos.2.2 j ea eb).elim
    | false =>
      rw [ea] at hab
      simp at hab
      simp [hj, hab]
  · cases eb : b.testBit j with
    | true => exact (hj (bit_small h.pos.2.1 eb)).elim
    | false => simp [hj]
theorem cnt_sum {R C : Nat} (hB : BoardOf R C) : ∀ {l : List Nat} {a b : Nat}, Cover R C a b l → cntN (joinsN R C 1) a l + cntN (joinsN R C 2) b l = 2 ^ l.length
  | [], a, b, h => by
    have h3 := hex hB (.inl rfl) h.pos.1
    rw [show 3 - 1 = 2 from rfl, h.full] at h3
    rw [cntN, cntN, h3]
    cases joinsN R C 2 b <;> rfl
  | c :: l, a, b, h => by
    have h1 := cnt_sum hB (h.put 1)
    have h2 := cnt_sum hB (h.put 2)
    have e1 : putA 1 c a = a ||| (1 <<< c) := rfl
    have e2 : putB 1 c b = b := rfl
    have e3 : putA 2 c a = a := rfl
    have e4 : putB 2 c b = b ||| (1 <<< c) := rfl
    rw [e1, e2] at h1
    rw [e3, e4] at h2
    rw [cntN, cntN, List.length_cons, Nat.pow_succ]
    omega
theorem cnt_sumP {R C P : Nat} (hB : BoardOf R C) (hP : P = 1 ∨ P = 2) {l : List Nat} {a b : Nat} (h : Cover R C a b l) : cntN (joinsN R C P) (if P = 1 then a else b) l + cntN (joinsN R C (3 - P)) (if P = 1 then b else a) l = 2 ^ l.length := by
  have := cnt_sum hB h
  rcases hP with rfl | rfl
  · exact this
  · show cntN (joinsN R C 2) b l + cntN (joinsN R C 1) a l = _; omega

/-! ### the free cells of a set, as a list -/
def cellsN (S : Nat) : List Nat := (List.range 9).filter S.testBit
theorem cellsN_mem {S j : Nat} (hS : S < 2 ^ 9) : j ∈ cellsN S ↔ S.testBit j = true := by
  unfold cellsN
  rw [List.mem_filter, List.mem_range]
  exact ⟨fun h => h.2, fun h => ⟨bit_small hS h, h⟩⟩
theorem cellsN_lt {S j : Nat} (h : j ∈ cellsN S) : j < 9 := by unfold cellsN at h; exact List.mem_range.1 (List.mem_filter.1 h).1
theorem cellsN_nodup (S : Nat) : (cellsN S).Nodup := List.nodup_range.filter _
theorem cellsN_without (S c : Nat) : cellsN (without S c) = (cellsN S).erase c := by
  rw [(cellsN_nodup S).erase_eq_filter]
  unfold cellsN
  rw [List.filter_filter]
  apply List.filter_congr
  intro j _
  rw [without_bit, Bool.and_comm]
  by_cases hj : j = c <;> simp [hj]
theorem cellsN_perm {S c : Nat} (hS : S < 2 ^ 9) (hc : S.testBit c = true) : (cellsN S).Perm (c :: cellsN (without S c)) := by
  rw [cellsN_without]; exact List.perm_cons_erase ((cellsN_mem hS).2 hc)
theorem perm_of_mem {l l' : List Nat} (h : l.Nodup) (h' : l'.Nodup) (hm : ∀ j, j ∈ l ↔ j ∈ l') : l.Perm l' := by
  rw [List.perm_iff_count]
  intro j
  rw [h.count, h'.count]
  by_cases e : j ∈ l
  · rw [if_pos e, if_pos ((hm j).1 e)]
  · rw [if_neg e, if_neg (fun hh => e ((hm j).2 hh))]
theorem cnt_moved {J J' : Nat → Bool} {f : Nat → Nat} {n : Nat} (hn : n ≤ 9) (hf : Perm f n) (hJ : ∀ S, S < 2 ^ n → J' (moved f S n) = J S) : ∀ {l : List Nat} {s : Nat}, s < 2 ^ n → (∀ j ∈ l, j < n) → cntN J' (moved f s n) (l.map f) = cntN J s l
  | [], s, hs, _ => by rw [List.map_nil, cntN, cntN, hJ s hs]
  | c :: l, s, hs, hl => by
    have hc := hl c (List.mem_cons_self ..)
    have hl' : ∀ j ∈ l, j < n := fun j hj => hl j (List.mem_cons_of_mem _ hj)
    rw [List.map_cons, cntN, cntN, cnt_moved hn hf hJ hs hl', ← moved_put hc, cnt_moved hn hf hJ (with_lt hs hc) hl']
theorem cellsN_moved {f : Nat → Nat} {n S : Nat} (hn : n ≤ 9) (hf : Perm f n) (hS : S < 2 ^ n) : (cellsN (moved f S n)).Perm ((cellsN S).map f) := by
  have hS9 : S < 2 ^ 9 := Nat.lt_of_lt_of_le hS (Nat.pow_le_pow_right (by decide) hn)
  have hm9 : moved f S n < 2 ^ 9 := Nat.lt_of_lt_of_le (moved_lt hf) (Nat.pow_le_pow_right (by decide) hn)
  refine perm_of_mem (cellsN_nodup _) ?_ fun j => ?_
  · rw [List.Nodup, List.pairwise_map]
    refine List.Pairwise.imp_of_mem (fun {x y} hx hy hne he => hne (hf.inj x y (bit_small hS ((cellsN_mem hS9).1 hx)) (bit_small hS ((cellsN_mem hS9).1 hy)) he)) (cellsN_nodup S)
  · rw [cellsN_mem hm9, moved_bit, List.mem_map]
    constructor
    · rintro ⟨k, _, h2, rfl⟩; exact ⟨k, (cellsN_mem hS9).2 h2, rfl⟩
    · rintro ⟨k, h1, rfl⟩
      have := (cellsN_mem hS9).1 h1
      exact ⟨k, bit_small hS this, this, rfl⟩

/-! ### played to the last cell -/
def fullF (R C : Nat) : Nat → Nat → Nat → Nat → Nat
  | 0, a, _, _ => if joinsN R C 1 a = true then 1 else 2
  | m + 1, a, b, t => if ((List.range (R * C)).any fun k => !(a ||| b).testBit k && decide (fullF R C m (putA t k a) (putB t k b) (3 - t) = t)) = true then t else 3 - t
theorem fr_put_eq {n t k a b : Nat} (hk : k < n) (h : (a ||| b).testBit k = false) : frN n (putA t k a) (putB t k b) + 1 = frN n a b := by
  unfold frN
  have : ∀ m, (List.range m).countP (fun j => !(putA t k a ||| putB t k b).testBit j) + (if k < m then 1 else 0) = (List.range m).countP (fun j => !(a ||| b).testBit j) := by
    intro m
    induction m with
    | zero => simp
    | succ m ih =>
      rw [List.range_succ, List.countP_append, List.countP_append, List.countP_singleton, List.countP_singleton, put_bit]
      by_cases hkm : m = k
      · subst hkm
        rw [h]
        simp at ih ⊢
        omega
      · have hd : decide (m = k) = false := decide_eq_false hkm
        rw [hd, Bool.or_false]
        have : (if k < m + 1 then 1 else 0) = (if k < m then 1 else 0) := by
          by_cases hh : k < m
          · rw [if_pos hh, if_pos (by omega)]
          · rw [if_neg hh, if_neg (by omega)]
        rw [this]
        omega
  have h2 := this n
  rw [if_pos hk] at h2
  exact h2
theorem fr_pos {n a b m : Nat} (h : frN n a b = m + 1) : ∃ k, k < n ∧ (a ||| b).testBit k = false := by
  unfold frN at h
  obtain ⟨k, h1, h2⟩ := List.countP_pos_iff.1 (show 0 < _ by rw [h]; omega)
  exact ⟨k, List.mem_range.1 h1, by simpa using h2⟩
theorem full_win {R C : Nat} (hB : BoardOf R C) : ∀ (m a b t : Nat), Pos R C a b → (t = 1 ∨ t = 2) → frN (R * C) a b = m → winN R C a b t = fullF R C m a b t := by
  intro m
  induction m with
  | zero =>
    intro a b t hp ht hm
    rw [fullF]
    cases j1 : joinsN R C 1 a with
    | true => rw [win_first j1]; rfl
    | false =>
      cases j2 : joinsN R C 2 b with
      | true => rw [win_second hB hp j2]; rfl
      | false =>
        obtain ⟨k, hk, hf⟩ := hp.free hB j1 j2
        rw [fr_zero (by omega) hk] at hf; cases hf
  | succ m ih =>
    intro a b t hp ht hm
    have ht' : 3 - t = 1 ∨ 3 - t = 2 := by omega
    have hany : ((List.range (R * C)).any fun k => !(a ||| b).testBit k && decide (fullF R C m (putA t k a) (putB t k b) (3 - t) = t)) = moveB R C a b t := by
      unfold moveB
      rw [Bool.eq_iff_iff, List.any_eq_true, List.any_eq_true]
      refine exists_congr fun k => and_congr_right fun hk => ?_
      rw [← Bool.eq_iff_iff]
      cases e : (a ||| b).testBit k with
      | true => rfl
      | false =>
        have hk' := List.mem_range.1 hk
        rw [ih _ _ _ (hp.put hk' e) ht' (by have := fr_put_eq (t := t) hk' e; omega)]
    rw [fullF, hany]
    obtain ⟨k, hk, hf⟩ := fr_pos hm
    have l9 := hp.lt9 hB
    cases j1 : joinsN R C 1 a with
    | true =>
      rw [win_first j1]
      have hall : ∀ k, k < R * C → (a ||| b).testBit k = false → winN R C (putA t k a) (putB t k b) (3 - t) = 1 := fun k hk hf => by
        have l9' := (hp.put (t := t) hk hf).lt9 hB
        refine win_first (joins_mono l9.1 l9'.1 (fun j hj => ?_) j1)
        unfold putA; split
        · rw [with_bit, hj]; rfl
        · exact hj
      rcases ht with rfl | rfl
      · rw [if_pos (moveB_iff.2 ⟨k, hk, hf, hall k hk hf⟩)]
      · rw [if_neg]
        intro hmv
        obtain ⟨i, hi, hfi, hwi⟩ := moveB_iff.1 hmv
        rw [hall i hi hfi] at hwi; cases hwi
    | false =>
      cases j2 : joinsN R C 2 b with
      | true =>
        rw [win_second hB hp j2]
        have hall : ∀ k, k < R * C → (a ||| b).testBit k = false → winN R C (putA t k a) (putB t k b) (3 - t) = 2 := fun k hk hf => by
          have hpp := hp.put (t := t) hk hf
          have l9' := hpp.lt9 hB
          refine win_second hB hpp (joins_mono l9.2 l9'.2 (fun j hj => ?_) j2)
          unfold putB; split
          · exact hj
          · rw [with_bit, hj]; rfl
        rcases ht with rfl | rfl
        · rw [if_neg]
          intro hmv
          obtain ⟨i, hi, hfi, hwi⟩ := moveB_iff.1 hmv
          rw [hall i hi hfi] at hwi; cases hwi
        · rw [if_pos (moveB_iff.2 ⟨k, hk, hf, hall k hk hf⟩)]
      | false => rw [win_open j1 j2]

/-- Positions with the same free cells, whose fillings are won alike, are won alike. -/
theorem full_congr {R C : Nat} : ∀ (m a b a' b' t : Nat), (∀ j, (a ||| b).testBit j = (a' ||| b').testBit j) → (∀ F, (∀ j, F.testBit j = true → j < R * C ∧ (a ||| b).testBit j = false) → joinsN R C 1 (a ||| F) = joinsN R C 1 (a' ||| F)) → fullF R C m a b t = fullF R C m a' b' t := by
  intro m
  induction m with
  | zero =>
    intro a b a' b' t _ hj
    have := hj 0 fun j h => by rw [Nat.zero_testBit] at h; cases h
    rw [Nat.or_zero, Nat.or_zero] at this
    rw [fullF, fullF, this]
  | succ m ih =>
    intro a b a' b' t hf hj
    rw [fullF, fullF]
    have : ((List.range (R * C)).any fun k => !(a ||| b).testBit k && decide (fullF R C m (putA t k a) (putB t k b) (3 - t) = t)) = ((List.range (R * C)).any fun k => !(a' ||| b').testBit k && decide (fullF R C m (putA t k a') (putB t k b') (3 - t) = t)) := by
      rw [Bool.eq_iff_iff, List.any_eq_true, List.any_eq_true]
      refine exists_congr fun k => and_congr_right fun hk => ?_
      rw [← Bool.eq_iff_iff, ← hf k]
      cases e : (a ||| b).testBit k with
      | true => rfl
      | false =>
        have hk' := List.mem_range.1 hk
        rw [ih (putA t k a) (putB t k b) (putA t k a') (putB t k b') (3 - t) (fun j => by rw [put_bit, put_bit, hf j]) fun F hF => ?_]
        have hF' : ∀ j, F.testBit j = true → j < R * C ∧ (a ||| b).testBit j = false := fun j hj => by
          have := hF j hj
          rw [put_bit, Bool.or_eq_false_iff] at this
          exact ⟨this.1, this.2.1⟩
        unfold putA
        split
        · have h1 := hj ((1 <<< k) ||| F) fun j hjj => by
            rw [Nat.testBit_or, one_bit, Bool.or_eq_true, decide_eq_true_eq] at hjj
            rcases hjj with rfl | hjj
            · exact ⟨hk', e⟩
            · exact hF' j hjj
          rw [Nat.or_assoc, Nat.or_assoc]; exact h1
        · exact hj F hF'
    rw [this]

/-- A cell that does not matter: whoever has a stone on it, the winner is the same. -/
theorem dead_win {R C a b c t : Nat} (hB : BoardOf R C) (hp : Pos R C a b) (hc : c < R * C) (hcf : (a ||| b).testBit c = false) (ht : t = 1 ∨ t = 2)
    (hd : ∀ F, (∀ j, F.testBit j = true → j < R * C ∧ (a ||| b).testBit j = false ∧ j ≠ c) → joinsN R C 1 (a ||| (1 <<< c) ||| F) = joinsN R C 1 (a ||| F)) :
    winN R C (putA 1 c a) (putB 1 c b) t = winN R C a b t ∧ winN R C (putA 2 c a) (putB 2 c b) t = winN R C a b t := by
  have hp1 := hp.put (t := 1) hc hcf
  have hp2 := hp.put (t := 2) hc hcf
  have hfr1 := fr_put_eq (t := 1) hc hcf
  have hfr2 := fr_put_eq (t := 2) hc hcf
  have heq : winN R C (putA 1 c a) (putB 1 c b) t = winN R C (putA 2 c a) (putB 2 c b) t := by
    rw [full_win hB _ _ _ t hp1 ht rfl, full_win hB _ _ _ t hp2 ht rfl, show frN (R * C) (putA 1 c a) (putB 1 c b) = frN (R * C) (putA 2 c a) (putB 2 c b) by omega]
    refine full_congr _ _ _ _ _ t (fun j => by rw [put_bit, put_bit]) fun F hF => ?_
    exact hd F fun j hj => by
      have := hF j hj
      rw [put_bit, Bool.or_eq_false_iff, decide_eq_false_iff_not] at this
      exact ⟨this.1, this.2.1, this.2.2⟩
  have b1 : Better a b (putA 1 c a) (putB 1 c b) := ⟨fun j hj => by show (a ||| (1 <<< c)).testBit j = true; rw [with_bit, hj]; rfl, fun _ h => h⟩
  have b2 : Better (putA 2 c a) (putB 2 c b) a b := ⟨fun _ h => h, fun j hj => by show (b ||| (1 <<< c)).testBit j = true; rw [with_bit, hj]; rfl⟩
  rcases win_cases (R := R) (C := C) (a := a) (b := b) ht with h | h
  · have h1 := win_mono hB hp hp1 b1 ht h
    exact ⟨by rw [h1, h], by rw [← heq, h1, h]⟩
  · have h2 := win_mono2 hB hp2 hp b2 ht h
    exact ⟨by rw [heq, h2, h], by rw [h2, h]⟩

end Go.Proofs.YtlfjjjhjjmikfaaDoor

/- What chapter 5's functions tell of a position (countL, pivotL, mattersL, deadL), and what holds of them. No program text. -/
namespace Go.Proofs.YtlfjjjhjjmikfaaDoor
open Go Go.Ip G

def countL (r c : Int) (xs : List Int) (P : Int) : Int := if (posB r c xs && playerB P) = true then ((cntN (joinsN r.toNat c.toNat P.toNat) (setL xs P) (cellsN (setL xs 0)) : Nat) : Int) else -1
def freeAt (r c : Int) (xs : List Int) (k : Int) : Bool := posB r c xs && decide (0 ≤ k ∧ k < (xs.length : Int)) && decide (xs.getD k.toNat 0 = 0)
def pivotL (r c : Int) (xs : List Int) (k : Int) : Int := if freeAt r c xs k = true then ((cntN (pivJ (joinsN r.toNat c.toNat 1) k.toNat) (setL xs 1) (cellsN (without (setL xs 0) k.toNat)) : Nat) : Int) else -1
def mattersL (r c : Int) (xs : List Int) (k : Int) : Bool := decide (0 < pivotL r c xs k)
def deadB (r c : Int) (xs : List Int) (k : Nat) : Bool := freeAt r c xs (k : Int) && !mattersL r c xs (k : Int)
def deadL (r c : Int) (xs : List Int) : List Int := ((List.range xs.length).filter (deadB r c xs)).map fun k : Nat => (k : Int)

theorem freeAt_iff {r c : Int} {xs : List Int} {k : Nat} : freeAt r c xs (k : Int) = true ↔ posB r c xs = true ∧ xs[k]? = some 0 := by
  unfold freeAt
  simp only [Bool.and_eq_true, decide_eq_true_eq]
  constructor
  · rintro ⟨⟨h1, h2⟩, h3⟩
    have hk : k < xs.length := by omega
    refine ⟨h1, ?_⟩
    rw [List.getElem?_eq_getElem hk]
    have : xs.getD k 0 = xs[k] := by rw [List.getD_eq_getElem?_getD, List.getElem?_eq_getElem hk]; rfl
    rw [← this]
    exact congrArg some h3
  · rintro ⟨h1, h2⟩
    have hk : k < xs.length := (List.getElem?_eq_some_iff.1 h2).1
    refine ⟨⟨h1, by omega⟩, ?_⟩
    show xs.getD k 0 = 0
    rw [List.getD_eq_getElem?_getD, h2]; rfl
theorem freeAt_cell {r c : Int} {xs : List Int} {k : Int} (h : freeAt r c xs k = true) : ∃ K : Nat, k = (K : Int) ∧ K < xs.length := by
  unfold freeAt at h
  simp only [Bool.and_eq_true, decide_eq_true_eq] at h
  obtain ⟨K, rfl⟩ := Int.eq_ofNat_of_zero_le h.1.2.1
  exact ⟨K, rfl, by omega⟩
theorem countL_none {r c : Int} {xs : List Int} {pl : Int} (h : posB r c xs = false ∨ 2 < pl) : countL r c xs pl = -1 := by
  unfold countL
  rw [if_neg]
  rcases h with h | h
  · rw [h]; simp
  · rw [playerB_none h]; simp
theorem countL_big (r c : Int) (xs : List Int) (P : Int) : -1 ≤ countL r c xs P ∧ countL r c xs P ≤ 512 := by
  unfold countL
  split
  · have h1 := cnt_le (joinsN r.toNat c.toNat P.toNat) (cellsN (setL xs 0)) (setL xs P)
    have h2 : (cellsN (setL xs 0)).length ≤ 9 := by
      unfold cellsN; have := List.length_filter_le (setL xs 0).testBit (List.range 9); rw [List.length_range] at this; exact this
    have h3 : 2 ^ (cellsN (setL xs 0)).length ≤ 2 ^ 9 := Nat.pow_le_pow_right (by decide) h2
    omega
  · omega
theorem pivotL_big (r c : Int) (xs : List Int) (k : Int) : -1 ≤ pivotL r c xs k ∧ pivotL r c xs k ≤ 512 := by
  unfold pivotL
  split
  · have h1 := cnt_le (pivJ (joinsN r.toNat c.toNat 1) k.toNat) (cellsN (without (setL xs 0) k.toNat)) (setL xs 1)
    have h2 : (cellsN (without (setL xs 0) k.toNat)).length ≤ 9 := by
      unfold cellsN; have := List.length_filter_le (without (setL xs 0) k.toNat).testBit (List.range 9); rw [List.length_range] at this; exact this
    have h3 : 2 ^ (cellsN (without (setL xs 0) k.toNat)).length ≤ 2 ^ 9 := Nat.pow_le_pow_right (by decide) h2
    omega
  · omega
theorem deadL_none {r c : Int} {xs : List Int} (h : posB r c xs = false) : deadL r c xs = [] := by
  unfold deadL
  rw [List.filter_eq_nil_iff.2 fun k _ => by unfold deadB freeAt; rw [h]; simp]
  rfl
theorem deadL_length (r c : Int) (xs : List Int) : (deadL r c xs).length ≤ xs.length := by
  unfold deadL
  rw [List.length_map]
  have := List.length_filter_le (deadB r c xs) (List.range xs.length)
  rw [List.length_range] at this; exact this
theorem deadL_sorted (r c : Int) (xs : List Int) : (deadL r c xs).Pairwise (· < ·) := by
  unfold deadL
  rw [List.pairwise_map]
  exact ((List.pairwise_lt_range).filter _).imp fun h => by omega
theorem deadL_mem {r c : Int} {xs : List Int} {e : Int} : e ∈ deadL r c xs ↔ ∃ k : Nat, e = (k : Int) ∧ deadB r c xs k = true := by
  unfold deadL
  rw [List.mem_map]
  constructor
  · rintro ⟨k, hk, rfl⟩
    exact ⟨k, rfl, (List.mem_filter.1 hk).2⟩
  · rintro ⟨k, rfl, hk⟩
    refine ⟨k, List.mem_filter.2 ⟨List.mem_range.2 ?_, hk⟩, rfl⟩
    unfold deadB at hk
    rw [Bool.and_eq_true] at hk
    exact (List.getElem?_eq_some_iff.1 (freeAt_iff.1 hk.1).2).1
theorem dead_in {r c : Int} {xs : List Int} {k : Nat} : decide ((k : Int) ∈ deadL r c xs) = deadB r c xs k := by
  rw [Bool.eq_iff_iff, decide_eq_true_iff, deadL_mem]
  constructor
  · rintro ⟨j, hj, hw⟩
    have : k = j := by omega
    rw [this]; exact hw
  · intro h; exact ⟨k, rfl, h⟩

section
variable {R C : Nat} {xs : List Int} (hb : posB (R : Int) (C : Int) xs = true) (hS : Sides (R : Int) (C : Int) R C xs)
include hS
theorem cover_of : Cover R C (setL xs 1) (setL xs 2) (cellsN (setL xs 0)) := by
  refine ⟨pos_sets hS, cellsN_nodup _, fun j => ?_⟩
  rw [cellsN_mem (set_lt9 hS 0)]
  constructor
  · intro h
    have hj := set_in hS h
    exact ⟨hj, (free_bit hS hj).2 (setL_bit.1 h)⟩
  · rintro ⟨hj, hf⟩
    exact setL_bit.2 ((free_bit hS hj).1 hf)
theorem cells_len : (cellsN (setL xs 0)).length = xs.count 0 := by
  rw [← pop_count (by have := hS.2.2.2.2.2.2.2.1; have := hS.2.2.2.2.2.2.1; omega)]
  unfold cellsN pop
  rw [List.countP_eq_length_filter]
omit hS
include hb
theorem countL_eq {P : Nat} (hP : P = 1 ∨ P = 2) : countL (R : Int) (C : Int) xs (P : Int) = ((cntN (joinsN R C P) (setL xs (P : Int)) (cellsN (setL xs 0)) : Nat) : Int) := by
  unfold countL; rw [hb, playerB_of hP]; rfl
theorem pivotL_eq {k : Nat} (hk : xs[k]? = some 0) : pivotL (R : Int) (C : Int) xs (k : Int) = ((cntN (pivJ (joinsN R C 1) k) (setL xs 1) (cellsN (without (setL xs 0) k)) : Nat) : Int) := by
  unfold pivotL; rw [freeAt_iff.2 ⟨hb, hk⟩]; rfl
include hS
/-- With a stone of the player, or of the other one, on a free cell. -/
theorem countL_set {P Q k : Nat} (hP : P = 1 ∨ P = 2) (hQ : Q = 1 ∨ Q = 2) (hk : xs[k]? = some 0) : countL (R : Int) (C : Int) (xs.set k (Q : Int)) (P : Int) = ((cntN (joinsN R C P) (if P = Q then setL xs (P : Int) ||| (1 <<< k) else setL xs (P : Int)) (cellsN (without (setL xs 0) k)) : Nat) : Int) := by
  rw [countL_eq (pos_set hb hQ k) hP, (set_more hS hQ hk).2.1]
  have h := set_putA hQ hk
  congr 2
  rcases hP with rfl | rfl <;> rcases hQ with rfl | rfl
  · exact h.1
  · exact h.1
  · exact h.2
  · exact h.2
/-- Both players have together all fillings. -/
theorem count_both {P : Nat} (hP : P = 1 ∨ P = 2) : countL (R : Int) (C : Int) xs (P : Int) + countL (R : Int) (C : Int) xs ((3 - P : Nat) : Int) = ((2 ^ (xs.count 0) : Nat) : Int) := by
  have hO : 3 - P = 1 ∨ 3 - P = 2 := by omega
  rw [countL_eq hb hP, countL_eq hb hO, ← cells_len hS]
  have := cnt_sumP (board_of_sides hS) hP (cover_of hS)
  rw [← this, Int.natCast_add]
  rcases hP with rfl | rfl <;> rfl
theorem count_split {P k : Nat} (hP : P = 1 ∨ P = 2) (hk : xs[k]? = some 0) : countL (R : Int) (C : Int) (xs.set k (P : Int)) (P : Int) + countL (R : Int) (C : Int) (xs.set k ((3 - P : Nat) : Int)) (P : Int) = countL (R : Int) (C : Int) xs (P : Int) ∧ countL (R : Int) (C : Int) (xs.set k ((3 - P : Nat) : Int)) (P : Int) ≤ countL (R : Int) (C : Int) (xs.set k (P : Int)) (P : Int) := by
  have hO : 3 - P = 1 ∨ 3 - P = 2 := by omega
  have hk9 : k < 9 := by have := (List.getElem?_eq_some_iff.1 hk).1; have := hS.2.2.2.2.2.2.2.1; have := hS.2.2.2.2.2.2.1; omega
  rw [countL_set hb hS hP hP hk, countL_set hb hS hP hO hk, countL_eq hb hP, if_pos rfl, if_neg (by omega), cnt_perm (cellsN_perm (set_lt9 hS 0) (setL_bit.2 hk)), cntN]
  have := cnt_mono (joins_monoB R C P) hk9 (l := cellsN (without (setL xs 0) k)) (set_lt9 hS (P : Int)) fun j hj => cellsN_lt hj
  omega
theorem count_none_free {P : Nat} (hP : P = 1 ∨ P = 2) (h0 : xs.count 0 = 0) : countL (R : Int) (C : Int) xs (P : Int) = if joinsL (R : Int) (C : Int) xs (P : Int) = true then 1 else 0 := by
  have hl : cellsN (setL xs 0) = [] := List.eq_nil_of_length_eq_zero (by rw [cells_len hS, h0])
  rw [countL_eq hb hP, hl, cntN, joinsL_eq hb hP]
  split <;> rfl
/-- What a stone of the first player adds. -/
theorem pivot_diff {k : Nat} (hk : xs[k]? = some 0) : countL (R : Int) (C : Int) (xs.set k 1) 1 - countL (R : Int) (C : Int) (xs.set k 2) 1 = pivotL (R : Int) (C : Int) xs (k : Int) := by
  have hk9 : k < 9 := by have := (List.getElem?_eq_some_iff.1 hk).1; have := hS.2.2.2.2.2.2.2.1; have := hS.2.2.2.2.2.2.1; omega
  have e1 := countL_set hb hS (P := 1) (Q := 1) (.inl rfl) (.inl rfl) hk
  have e2 := countL_set hb hS (P := 1) (Q := 2) (.inl rfl) (.inr rfl) hk
  have h := cnt_pivot (joins_monoB R C 1) hk9 (l := cellsN (without (setL xs 0) k)) (set_lt9 hS 1) fun j hj => cellsN_lt hj
  rw [if_pos rfl] at e1
  rw [if_neg (by decide)] at e2
  have e1' : countL (R : Int) (C : Int) (xs.set k 1) 1 = _ := e1
  have e2' : countL (R : Int) (C : Int) (xs.set k 2) 1 = _ := e2
  rw [e1', e2', pivotL_eq hb hk]
  show ((cntN (joinsN R C 1) (setL xs 1 ||| 1 <<< k) (cellsN (without (setL xs 0) k)) : Nat) : Int) - ((cntN (joinsN R C 1) (setL xs 1) (cellsN (without (setL xs 0) k)) : Nat) : Int) = _
  omega
/-- It is as much for the second player. -/
theorem pivot_second {k : Nat} (hk : xs[k]? = some 0) : ((cntN (pivJ (joinsN R C 2) k) (setL xs 2) (cellsN (without (setL xs 0) k)) : Nat) : Int) = pivotL (R : Int) (C : Int) xs (k : Int) := by
  have hk9 : k < 9 := by have := (List.getElem?_eq_some_iff.1 hk).1; have := hS.2.2.2.2.2.2.2.1; have := hS.2.2.2.2.2.2.1; omega
  have hB := board_of_sides hS
  have hcov := cover_of hS
  have hcov' : Cover R C (setL xs 1) (setL xs 2) (k :: cellsN (without (setL xs 0) k)) := by
    have hp := cellsN_perm (set_lt9 hS 0) (setL_bit.2 hk)
    exact ⟨hcov.pos, hp.nodup_iff.1 hcov.nodup, fun j => by rw [← hp.mem_iff]; exact hcov.free j⟩
  have h1 : cntN (joinsN R C 1) (setL xs 1 ||| 1 <<< k) (cellsN (without (setL xs 0) k)) + cntN (joinsN R C 2) (setL xs 2) (cellsN (without (setL xs 0) k)) = _ := cnt_sum hB (hcov'.put 1)
  have h2 : cntN (joinsN R C 1) (setL xs 1) (cellsN (without (setL xs 0) k)) + cntN (joinsN R C 2) (setL xs 2 ||| 1 <<< k) (cellsN (without (setL xs 0) k)) = _ := cnt_sum hB (hcov'.put 2)
  have h3 := cnt_pivot (joins_monoB R C 1) hk9 (l := cellsN (without (setL xs 0) k)) (set_lt9 hS 1) fun j hj => cellsN_lt hj
  have h4 := cnt_pivot (joins_monoB R C 2) hk9 (l := cellsN (without (setL xs 0) k)) (set_lt9 hS 2) fun j hj => cellsN_lt hj
  rw [pivotL_eq hb hk]
  omega
/-- If somebody has joined no cell decides. -/
theorem pivot_done {k : Nat} (hk : xs[k]? = some 0) (hj : joinsL (R : Int) (C : Int) xs 1 = true ∨ joinsL (R : Int) (C : Int) xs 2 = true) : pivotL (R : Int) (C : Int) xs (k : Int) = 0 := by
  have hk9 : k < 9 := by have := (List.getElem?_eq_some_iff.1 hk).1; have := hS.2.2.2.2.2.2.2.1; have := hS.2.2.2.2.2.2.1; omega
  have key : ∀ (J : Nat → Bool), MonoB J → ∀ (l : List Nat) (s : Nat), s < 2 ^ 9 → (∀ j ∈ l, j < 9) → J s = true → cntN (pivJ J k) s l = 0 := by
    intro J hJ l
    induction l with
    | nil =>
      intro s hs _ hjs
      rw [cntN]; unfold pivJ; rw [hjs]; simp
    | cons c l ih =>
      intro s hs hl hjs
      have hc := hl c (List.mem_cons_self ..)
      rw [cntN, ih s hs (fun j hj => hl j (List.mem_cons_of_mem _ hj)) hjs, ih (s ||| 1 <<< c) (with_lt hs hc) (fun j hj => hl j (List.mem_cons_of_mem _ hj)) (hJ s _ hs (with_lt hs hc) (fun j hj => by rw [with_bit, hj]; rfl) hjs)]
  rcases hj with hj | hj
  · rw [joins_one hb] at hj
    rw [pivotL_eq hb hk, key _ (joins_monoB R C 1) _ _ (set_lt9 hS 1) (fun j hj => cellsN_lt hj) hj]; rfl
  · rw [joins_two hb] at hj
    rw [← pivot_second hb hS hk, key _ (joins_monoB R C 2) _ _ (set_lt9 hS 2) (fun j hj => cellsN_lt hj) hj]; rfl

/-! ### turned and mirrored -/
omit hb hS in
theorem pivJ_moved {R' C' P Q k : Nat} {f : Nat → Nat} (hf : Perm f (R * C)) (hk : k < R * C) (hj : ∀ S, S < 2 ^ (R * C) → joinsN R' C' Q (moved f S (R * C)) = joinsN R C P S) : ∀ S, S < 2 ^ (R * C) → pivJ (joinsN R' C' Q) (f k) (moved f S (R * C)) = pivJ (joinsN R C P) k S := fun S h => by
  unfold pivJ
  rw [← moved_put hk, hj _ (with_lt h hk), hj S h]
omit hb in
theorem piv_moved {R' C' P Q k : Nat} {f : Nat → Nat} (hf : Perm f (R * C)) (hk : k < R * C) (hj : ∀ S, S < 2 ^ (R * C) → joinsN R' C' Q (moved f S (R * C)) = joinsN R C P S) (w : Int) :
    cntN (pivJ (joinsN R' C' Q) (f k)) (moved f (setL xs w) (R * C)) (cellsN (without (moved f (setL xs 0) (R * C)) (f k))) = cntN (pivJ (joinsN R C P) k) (setL xs w) (cellsN (without (setL xs 0) k)) := by
  have h9 : R * C ≤ 9 := (board_of_sides hS).2.2.2.2
  have hwo : without (moved f (setL xs 0) (R * C)) (f k) = moved f (without (setL xs 0) k) (R * C) := by
    apply Nat.eq_of_testBit_eq
    intro j
    rw [Bool.eq_iff_iff, without_bit, Bool.and_eq_true, decide_eq_true_eq, moved_bit, moved_bit]
    constructor
    · rintro ⟨⟨i, hi, h1, rfl⟩, h2⟩
      exact ⟨i, hi, by rw [without_bit, h1]; simp; exact fun e => h2 (by rw [e]), rfl⟩
    · rintro ⟨i, hi, h1, rfl⟩
      rw [without_bit, Bool.and_eq_true, decide_eq_true_eq] at h1
      exact ⟨⟨i, hi, h1.1, rfl⟩, fun e => h1.2 (hf.inj i k hi hk e)⟩
  rw [hwo, cnt_perm (cellsN_moved h9 hf (without_lt (set_lt hS 0)))]
  exact cnt_moved h9 hf (pivJ_moved hf hk hj) (set_lt hS w) fun j hj => by
    have := (cellsN_mem (without_lt (set_lt9 hS 0))).1 hj
    rw [without_bit, Bool.and_eq_true] at this
    exact set_in hS this.1
theorem pivot_turned {k : Nat} (hk : xs[k]? = some 0) (hb' : posB (R : Int) (C : Int) xs.reverse = true) : pivotL (R : Int) (C : Int) xs.reverse ((R * C - 1 - k : Nat) : Int) = pivotL (R : Int) (C : Int) xs (k : Int) := by
  have hB := board_of_sides hS
  have hlen : xs.length = R * C := hS.2.2.2.2.2.2.2.1
  have hkl : k < R * C := by rw [← hlen]; exact (List.getElem?_eq_some_iff.1 hk).1
  have hk' : xs.reverse[R * C - 1 - k]? = some 0 := by
    rw [List.getElem?_reverse (by omega), hlen, show R * C - 1 - (R * C - 1 - k) = k by omega]; exact hk
  rw [pivotL_eq hb' hk', pivotL_eq hb hk, setL_reverse, setL_reverse, hlen]
  have := piv_moved hS (perm_turn (R * C)) hkl (P := 1) (Q := 1) (R' := R) (C' := C) (fun S h => (hex_moves hB h).1) 1
  exact congrArg Int.ofNat this
theorem mir_free {k : Nat} (hk : xs[k]? = some 0) : (mir R C xs)[sig C R k]? = some 0 := by
  have hB := board_of_sides hS
  have hlen : xs.length = R * C := hS.2.2.2.2.2.2.2.1
  have hkl : k < R * C := by rw [← hlen]; exact (List.getElem?_eq_some_iff.1 hk).1
  have hpm := (perm_sig hB).lt k hkl
  obtain ⟨h1, h2, h3, h4, h9⟩ := hB
  have hback : sig R C (sig C R k) = k := by
    have := (sig_lt h3 h4 h1 h2 (by rw [Nat.mul_comm]; exact h9) (show k < C * R by rw [Nat.mul_comm]; exact hkl)).2
    exact this
  rw [mir_get (by rw [hlen]; exact hpm), hback, List.getD_eq_getElem?_getD, hk]; rfl
theorem pivot_mirrored {k : Nat} (hk : xs[k]? = some 0) (hb' : posB (C : Int) (R : Int) (mir R C xs) = true) : pivotL (C : Int) (R : Int) (mir R C xs) ((sig C R k : Nat) : Int) = pivotL (R : Int) (C : Int) xs (k : Int) := by
  have hB := board_of_sides hS
  have hlen : xs.length = R * C := hS.2.2.2.2.2.2.2.1
  have hkl : k < R * C := by rw [← hlen]; exact (List.getElem?_eq_some_iff.1 hk).1
  have e1 : setL (mir R C xs) 1 = moved (sig C R) (setL xs 2) (R * C) := setL_mir hS 2
  have e0 : setL (mir R C xs) 0 = moved (sig C R) (setL xs 0) (R * C) := setL_mir hS 0
  rw [pivotL_eq hb' (mir_free hb hS hk), e1, e0, ← pivot_second hb hS hk]
  have := piv_moved hS (perm_sig hB) hkl (P := 2) (Q := 1) (R' := C) (C' := R) (fun S h => (hex_moves hB h).2.2.2) 2
  exact congrArg Int.ofNat this
theorem count_mirrored {P : Nat} (hP : P = 1 ∨ P = 2) (hb' : posB (C : Int) (R : Int) (mir R C xs) = true) : countL (C : Int) (R : Int) (mir R C xs) ((3 - P : Nat) : Int) = countL (R : Int) (C : Int) xs (P : Int) := by
  have hB := board_of_sides hS
  have h9 : R * C ≤ 9 := hB.2.2.2.2
  have hO : 3 - P = 1 ∨ 3 - P = 2 := by omega
  have e1 : setL (mir R C xs) ((3 - P : Nat) : Int) = moved (sig C R) (setL xs (P : Int)) (R * C) := by rw [← swap_player hP]; exact setL_mir hS (P : Int)
  have e0 : setL (mir R C xs) 0 = moved (sig C R) (setL xs 0) (R * C) := setL_mir hS 0
  rw [countL_eq hb' hO, countL_eq hb hP, e1, e0, cnt_perm (cellsN_moved h9 (perm_sig hB) (set_lt hS 0))]
  have := cnt_moved (J := joinsN R C P) (J' := joinsN C R (3 - P)) (f := sig C R) (l := cellsN (setL xs 0)) (s := setL xs (P : Int)) h9 (perm_sig hB) (fun S h => by
    rcases hP with rfl | rfl
    · exact (hex_moves hB h).2.2.1
    · exact (hex_moves hB h).2.2.2) (set_lt hS (P : Int)) fun j hj => set_in hS ((cellsN_mem (set_lt9 hS 0)).1 hj)
  exact congrArg Int.ofNat this

/-! ### dead cells -/
theorem dead_iff {k : Nat} : deadB (R : Int) (C : Int) xs k = true ↔ xs[k]? = some 0 ∧ cntN (pivJ (joinsN R C 1) k) (setL xs 1) (cellsN (without (setL xs 0) k)) = 0 := by
  unfold deadB mattersL
  rw [Bool.and_eq_true, freeAt_iff, Bool.not_eq_true', decide_eq_false_iff_not]
  constructor
  · rintro ⟨⟨_, hk⟩, h⟩
    rw [pivotL_eq hb hk] at h
    exact ⟨hk, by omega⟩
  · rintro ⟨hk, h⟩
    rw [pivotL_eq hb hk]
    exact ⟨⟨hb, hk⟩, by omega⟩
/-- Stones on dead cells change nothing. -/
theorem dead_winL {P T k : Nat} (hP : P = 1 ∨ P = 2) (hT : T = 1 ∨ T = 2) (hd : deadB (R : Int) (C : Int) xs k = true) : winL (R : Int) (C : Int) (xs.set k (P : Int)) (T : Int) = winL (R : Int) (C : Int) xs (T : Int) := by
  obtain ⟨hk, hz⟩ := (dead_iff hb hS).1 hd
  have hlen : xs.length = R * C := hS.2.2.2.2.2.2.2.1
  have hkl : k < R * C := by rw [← hlen]; exact (List.getElem?_eq_some_iff.1 hk).1
  have hB := board_of_sides hS
  have h9 : R * C ≤ 9 := hB.2.2.2.2
  have hm := joins_monoB R C 1
  have := dead_win hB (pos_sets hS) hkl ((free_bit hS hkl).2 hk) hT fun F hF => by
    have hFl : F < 2 ^ 9 := Nat.lt_pow_two_of_testBit F fun i hi => by
      cases e : F.testBit i with
      | false => rfl
      | true => have := (hF i e).1; omega
    have h1 := cnt_zero hz F fun j hj => by
      rw [cellsN_mem (without_lt (set_lt9 hS 0)), without_bit, Bool.and_eq_true, decide_eq_true_eq]
      have := hF j hj
      exact ⟨setL_bit.2 ((free_bit hS this.1).1 this.2.1), this.2.2⟩
    unfold pivJ at h1
    have hsl := set_lt9 hS 1
    have e : setL xs 1 ||| F ||| 1 <<< k = setL xs 1 ||| 1 <<< k ||| F := by rw [Nat.or_assoc, Nat.or_comm F, ← Nat.or_assoc]
    rw [e] at h1
    have hor : setL xs 1 ||| F < 2 ^ 9 := Nat.or_lt_two_pow hsl hFl
    cases e1 : joinsN R C 1 (setL xs 1 ||| 1 <<< k ||| F) with
    | false =>
      cases e2 : joinsN R C 1 (setL xs 1 ||| F) with
      | false => rfl
      | true =>
        have := hm _ (setL xs 1 ||| 1 <<< k ||| F) hor (Nat.or_lt_two_pow (with_lt hsl (by omega)) hFl) (fun j hj => by
          rw [Nat.testBit_or, Bool.or_eq_true] at hj
          rw [Nat.testBit_or, with_bit]
          rcases hj with hj | hj <;> rw [hj] <;> simp) e2
        rw [e1] at this; cases this
    | true =>
      rw [e1] at h1
      cases e2 : joinsN R C 1 (setL xs 1 ||| F) with
      | true => rfl
      | false => rw [e2] at h1; cases h1
  rw [winL_set hb hP hT hk, winL_eq hb hT]
  rcases hP with rfl | rfl
  · rw [this.1]
  · rw [this.2]
/-- Other dead cells stay dead. -/
theorem dead_stays {P k d : Nat} (hP : P = 1 ∨ P = 2) (hk : xs[k]? = some 0) (hd : deadB (R : Int) (C : Int) xs d = true) (hne : d ≠ k) : deadB (R : Int) (C : Int) (xs.set k (P : Int)) d = true := by
  obtain ⟨hd0, hz⟩ := (dead_iff hb hS).1 hd
  have hb2 := pos_set hb hP k
  have hS2 := sides_set hb hS (k := k) hP
  refine (dead_iff hb2 hS2).2 ⟨by rw [List.getElem?_set_ne (by omega)]; exact hd0, ?_⟩
  rw [(set_more hS hP hk).2.1, (set_putA hP hk).1]
  have hw : without (without (setL xs 0) k) d = without (without (setL xs 0) d) k := by
    apply Nat.eq_of_testBit_eq; intro j
    rw [without_bit, without_bit, without_bit, without_bit, Bool.and_right_comm]
  have hkd : (without (setL xs 0) d).testBit k = true := by rw [without_bit, setL_bit.2 hk]; simp; omega
  rw [cnt_perm (cellsN_perm (without_lt (set_lt9 hS 0)) hkd), cntN] at hz
  rw [hw]
  rcases hP with rfl | rfl
  · show cntN _ (setL xs 1 ||| 1 <<< k) _ = 0; omega
  · show cntN _ (setL xs 1) _ = 0; omega
end

/-- On the free board of a square each player has half. -/
theorem square_half {R P : Nat} (hB : BoardOf R R) (hP : P = 1 ∨ P = 2) : 2 * countL (R : Int) (R : Int) (freeL R R) (P : Int) = ((2 ^ (R * R) : Nat) : Int) := by
  have hb := free_pos hB
  have hS := sides_free hB
  have hmf : mir R R (freeL R R) = freeL R R := by
    apply List.ext_getElem?
    intro j
    have hl : (freeL R R).length = R * R := by simp [freeL]
    by_cases hj : j < R * R
    · rw [mir_get (by rw [hl]; exact hj)]
      have hs : sig R R j < R * R := (perm_sig hB).lt j hj
      rw [List.getD_eq_getElem?_getD, free_get.2 hs, free_get.2 hj]; rfl
    · rw [List.getElem?_eq_none (by rw [mir_length]; omega), List.getElem?_eq_none (by omega)]
  have h1 := count_mirrored hb hS hP (by rw [hmf]; exact hb)
  rw [hmf] at h1
  have h2 := count_both hb hS hP
  have hc : (freeL R R).count 0 = R * R := by unfold freeL; rw [List.count_replicate_self]
  rw [hc, h1] at h2
  omega

end Go.Proofs.YtlfjjjhjjmikfaaDoor

/- Carriers and threats: what holds of positions whose free cells outside a set are given to the other player. No program text. -/
namespace Go.Proofs.YtlfjjjhjjmikfaaDoor
open Go Go.Ip G

def givenAt (xs : List Int) (P : Int) (S j : Nat) : Int := if xs.getD j 0 = 0 ∧ S.testBit j = false then 3 - P else xs.getD j 0
def givenL (xs : List Int) (P : Int) (S : Nat) : List Int := (List.range xs.length).map (givenAt xs P S)
theorem givenL_length (xs : List Int) (P : Int) (S : Nat) : (givenL xs P S).length = xs.length := by simp [givenL]
theorem givenL_get {xs : List Int} {P : Int} {S j : Nat} (hj : j < xs.length) : (givenL xs P S)[j]? = some (givenAt xs P S j) := by
  unfold givenL; rw [List.getElem?_map, List.getElem?_range hj]; rfl
theorem getD_of {xs : List Int} {j : Nat} {v : Int} (h : xs[j]? = some v) : xs.getD j 0 = v := by rw [List.getD_eq_getElem?_getD, h]; rfl
theorem get_of {xs : List Int} {j : Nat} (h : j < xs.length) : xs[j]? = some (xs.getD j 0) := by rw [List.getD_eq_getElem?_getD, List.getElem?_eq_getElem h]; rfl

/-- No worse for the player. -/
def NoWorse (P : Int) (xs ys : List Int) : Prop := (∀ j : Nat, xs[j]? = some P → ys[j]? = some P) ∧ (∀ j : Nat, ys[j]? = some (3 - P) → xs[j]? = some (3 - P))

section
variable {R C : Nat} {xs ys : List Int} (hb : posB (R : Int) (C : Int) xs = true) (hb' : posB (R : Int) (C : Int) ys = true)
include hb
theorem sides_pos : Sides (R : Int) (C : Int) R C xs := by
  obtain ⟨R', C', hS⟩ := sides_of hb
  have e1 : R' = R := by have := hS.1; omega
  have e2 : C' = C := by have := hS.2.1; omega
  rw [e1, e2] at hS; exact hS
include hb'
theorem winL_better {P T : Nat} (hP : P = 1 ∨ P = 2) (hT : T = 1 ∨ T = 2) (h : NoWorse (P : Int) xs ys) (hw : winL (R : Int) (C : Int) xs (T : Int) = (P : Int)) : winL (R : Int) (C : Int) ys (T : Int) = (P : Int) := by
  have hS := sides_pos hb
  have hS' := sides_pos hb'
  rw [winL_eq hb hT] at hw
  have hw' := Int.ofNat_inj.1 hw
  rw [winL_eq hb' hT]
  rcases hP with rfl | rfl
  · rw [win_mono (board_of_sides hS) (pos_sets hS) (pos_sets hS') ⟨fun j hj => setL_bit.2 (h.1 j (setL_bit.1 hj)), fun j hj => setL_bit.2 (h.2 j (setL_bit.1 hj))⟩ hT hw']
  · rw [win_mono2 (board_of_sides hS) (pos_sets hS') (pos_sets hS) ⟨fun j hj => setL_bit.2 (h.2 j (setL_bit.1 hj)), fun j hj => setL_bit.2 (h.1 j (setL_bit.1 hj))⟩ hT hw']
theorem joinsL_better {P : Nat} (hP : P = 1 ∨ P = 2) (h : ∀ j : Nat, xs[j]? = some (P : Int) → ys[j]? = some (P : Int)) (hj : joinsL (R : Int) (C : Int) xs (P : Int) = true) : joinsL (R : Int) (C : Int) ys (P : Int) = true := by
  have hS := sides_pos hb
  have hS' := sides_pos hb'
  rw [joinsL_eq hb hP] at hj
  rw [joinsL_eq hb' hP]
  exact joins_mono (set_lt9 hS _) (set_lt9 hS' _) (fun j hj => setL_bit.2 (h j (setL_bit.1 hj))) hj
end

theorem given_pos {r c : Int} {xs : List Int} {P : Nat} (hP : P = 1 ∨ P = 2) (S : Nat) (hb : posB r c xs = true) : posB r c (givenL xs (P : Int) S) = true := by
  unfold posB at hb ⊢
  rw [Bool.and_eq_true] at hb ⊢
  rw [givenL_length]
  refine ⟨hb.1, ?_⟩
  rw [List.all_eq_true]
  intro x hx
  unfold givenL at hx
  obtain ⟨j, hj, rfl⟩ := List.mem_map.1 hx
  unfold givenAt
  split
  · rcases hP with rfl | rfl <;> rfl
  · have hjl := List.mem_range.1 hj
    have : xs.getD j 0 ∈ xs := by
      rw [List.getD_eq_getElem?_getD, List.getElem?_eq_getElem hjl]; exact List.getElem_mem hjl
    exact List.all_eq_true.1 hb.2 _ this

section
variable {xs : List Int} {P : Nat} (hP : P = 1 ∨ P = 2)
include hP
theorem given_own {S j : Nat} : (givenL xs (P : Int) S)[j]? = some (P : Int) ↔ xs[j]? = some (P : Int) := by
  by_cases hj : j < xs.length
  · rw [givenL_get hj, get_of hj]
    unfold givenAt
    split
    · rename_i h
      rw [h.1]
      constructor
      · intro h2; have := Option.some.inj h2; omega
      · intro h2; have := Option.some.inj h2; omega
    · exact Iff.rfl
  · rw [List.getElem?_eq_none (by rw [givenL_length]; omega), List.getElem?_eq_none (by omega)]
theorem given_other {S j : Nat} : (givenL xs (P : Int) S)[j]? = some (3 - (P : Int)) ↔ xs[j]? = some (3 - (P : Int)) ∨ (xs[j]? = some 0 ∧ S.testBit j = false) := by
  by_cases hj : j < xs.length
  · rw [givenL_get hj, get_of hj]
    unfold givenAt
    split
    · rename_i h
      exact ⟨fun _ => .inr ⟨by rw [h.1], h.2⟩, fun _ => rfl⟩
    · rename_i h
      constructor
      · exact .inl
      · rintro (h2 | ⟨h2, h3⟩)
        · exact h2
        · exact (h ⟨Option.some.inj h2, h3⟩).elim
  · rw [List.getElem?_eq_none (by rw [givenL_length]; omega), List.getElem?_eq_none (by omega)]; simp
theorem given_free {S j : Nat} : (givenL xs (P : Int) S)[j]? = some 0 ↔ xs[j]? = some 0 ∧ S.testBit j = true := by
  by_cases hj : j < xs.length
  · rw [givenL_get hj, get_of hj]
    unfold givenAt
    split
    · rename_i h
      constructor
      · intro h2; have := Option.some.inj h2; omega
      · rintro ⟨_, h3⟩; rw [h.2] at h3; cases h3
    · rename_i h
      constructor
      · intro h2
        refine ⟨h2, ?_⟩
        cases e : S.testBit j with
        | true => rfl
        | false => exact (h ⟨Option.some.inj h2, e⟩).elim
      · exact fun h2 => h2.1
  · rw [List.getElem?_eq_none (by rw [givenL_length]; omega), List.getElem?_eq_none (by omega)]; simp
/-- With more cells it is no worse. -/
theorem given_more {S S' : Nat} (h : ∀ j, xs[j]? = some 0 → S.testBit j = true → S'.testBit j = true) : NoWorse (P : Int) (givenL xs (P : Int) S) (givenL xs (P : Int) S') := by
  refine ⟨fun j hj => (given_own hP).2 ((given_own hP).1 hj), fun j hj => ?_⟩
  rcases (given_other hP).1 hj with h1 | ⟨h1, h2⟩
  · exact (given_other hP).2 (.inl h1)
  · refine (given_other hP).2 (.inr ⟨h1, ?_⟩)
    cases e : S.testBit j with
    | false => rfl
    | true => rw [h j h1 e] at h2; cases h2
end
theorem given_all {xs : List Int} {P : Int} {S : Nat} (h : ∀ j, xs[j]? = some 0 → S.testBit j = true) : givenL xs P S = xs := by
  apply List.ext_getElem?
  intro j
  by_cases hj : j < xs.length
  · rw [givenL_get hj, get_of hj]
    unfold givenAt
    rw [if_neg]
    rintro ⟨h1, h2⟩
    rw [h j (by rw [get_of hj, h1])] at h2; cases h2
  · rw [List.getElem?_eq_none (by rw [givenL_length]; omega), List.getElem?_eq_none (by omega)]
theorem given_same {xs : List Int} {P : Int} {S S' : Nat} (h : ∀ j, xs[j]? = some 0 → S.testBit j = S'.testBit j) : givenL xs P S = givenL xs P S' := by
  unfold givenL
  apply List.map_congr_left
  intro j hj
  unfold givenAt
  by_cases h0 : xs.getD j 0 = 0
  · rw [h j (by rw [get_of (List.mem_range.1 hj), h0])]
  · rw [if_neg (fun hh => h0 hh.1), if_neg (fun hh => h0 hh.1)]

def okL (r c : Int) (xs : List Int) (P S : Int) : Bool := posB r c xs && playerB P && decide (0 ≤ S ∧ S < ((2 ^ xs.length : Nat) : Int))
def carrierL (r c : Int) (xs : List Int) (P S : Int) : Bool := okL r c xs P S && decide (winL r c (givenL xs P S.toNat) (3 - P) = P)
def threatL (r c : Int) (xs : List Int) (P S : Int) : Bool := okL r c xs P S && decide (winL r c (givenL xs P S.toNat) P = P)
theorem okL_iff {r c : Int} {xs : List Int} {P S : Nat} (hP : P = 1 ∨ P = 2) : okL r c xs (P : Int) (S : Int) = true ↔ posB r c xs = true ∧ S < 2 ^ xs.length := by
  unfold okL
  rw [playerB_of hP, Bool.and_true, Bool.and_eq_true, decide_eq_true_eq]
  exact ⟨fun h => ⟨h.1, by omega⟩, fun h => ⟨h.1, by omega⟩⟩

section
variable {R C P : Nat} {xs : List Int} (hb : posB (R : Int) (C : Int) xs = true) (hP : P = 1 ∨ P = 2)
include hb hP
theorem carrier_iff {S : Nat} (hS : S < 2 ^ xs.length) : carrierL (R : Int) (C : Int) xs (P : Int) (S : Int) = true ↔ winL (R : Int) (C : Int) (givenL xs (P : Int) S) ((3 - P : Nat) : Int) = (P : Int) := by
  unfold carrierL
  rw [(okL_iff hP).2 ⟨hb, hS⟩, Bool.true_and, decide_eq_true_eq, show (3 : Int) - (P : Int) = ((3 - P : Nat) : Int) by omega]
  exact Iff.rfl
theorem threat_iff {S : Nat} (hS : S < 2 ^ xs.length) : threatL (R : Int) (C : Int) xs (P : Int) (S : Int) = true ↔ winL (R : Int) (C : Int) (givenL xs (P : Int) S) (P : Int) = (P : Int) := by
  unfold threatL
  rw [(okL_iff hP).2 ⟨hb, hS⟩, Bool.true_and, decide_eq_true_eq]
  exact Iff.rfl
theorem carrier_threat {S : Nat} (hS : S < 2 ^ xs.length) (h : carrierL (R : Int) (C : Int) xs (P : Int) (S : Int) = true) : threatL (R : Int) (C : Int) xs (P : Int) (S : Int) = true := by
  have hO : 3 - P = 1 ∨ 3 - P = 2 := by omega
  have hg := given_pos hP S hb
  exact (threat_iff hb hP hS).2 (winL_first hg (sides_pos hg) hO hP ((carrier_iff hb hP hS).1 h))
theorem carrier_more {S S' : Nat} (hS : S < 2 ^ xs.length) (hS' : S' < 2 ^ xs.length) (hm : ∀ j, xs[j]? = some 0 → S.testBit j = true → S'.testBit j = true) (h : carrierL (R : Int) (C : Int) xs (P : Int) (S : Int) = true) : carrierL (R : Int) (C : Int) xs (P : Int) (S' : Int) = true := by
  have hO : 3 - P = 1 ∨ 3 - P = 2 := by omega
  exact (carrier_iff hb hP hS').2 (winL_better (given_pos hP S hb) (given_pos hP S' hb) hP hO (given_more hP hm) ((carrier_iff hb hP hS).1 h))
theorem threat_more {S S' : Nat} (hS : S < 2 ^ xs.length) (hS' : S' < 2 ^ xs.length) (hm : ∀ j, xs[j]? = some 0 → S.testBit j = true → S'.testBit j = true) (h : threatL (R : Int) (C : Int) xs (P : Int) (S : Int) = true) : threatL (R : Int) (C : Int) xs (P : Int) (S' : Int) = true :=
  (threat_iff hb hP hS').2 (winL_better (given_pos hP S hb) (given_pos hP S' hb) hP hP (given_more hP hm) ((threat_iff hb hP hS).1 h))
theorem all_bits {j : Nat} (hj : xs[j]? = some 0) : (2 ^ xs.length - 1).testBit j = true := by
  have := (List.getElem?_eq_some_iff.1 hj).1
  rw [Nat.testBit_two_pow_sub_one]; simp; omega
theorem carrier_all : carrierL (R : Int) (C : Int) xs (P : Int) ((2 ^ xs.length - 1 : Nat) : Int) = true ↔ winL (R : Int) (C : Int) xs ((3 - P : Nat) : Int) = (P : Int) := by
  rw [carrier_iff hb hP (by have := Nat.two_pow_pos xs.length; omega), given_all fun j hj => all_bits hb hP hj]
theorem threat_all : threatL (R : Int) (C : Int) xs (P : Int) ((2 ^ xs.length - 1 : Nat) : Int) = true ↔ winL (R : Int) (C : Int) xs (P : Int) = (P : Int) := by
  rw [threat_iff hb hP (by have := Nat.two_pow_pos xs.length; omega), given_all fun j hj => all_bits hb hP hj]
/-- A stone of the other one outside a threat does not meet it. -/
theorem threat_meet {S k : Nat} (hS : S < 2 ^ xs.length) (h : threatL (R : Int) (C : Int) xs (P : Int) (S : Int) = true) (hk : xs[k]? = some 0) (hkS : S.testBit k = false) : winL (R : Int) (C : Int) (xs.set k ((3 - P : Nat) : Int)) (P : Int) = (P : Int) := by
  have hO : 3 - P = 1 ∨ 3 - P = 2 := by omega
  have hkl := (List.getElem?_eq_some_iff.1 hk).1
  have e3 : ((3 - P : Nat) : Int) = 3 - (P : Int) := by omega
  refine winL_better (given_pos hP S hb) (pos_set hb hO k) hP hP ⟨fun j hj => ?_, fun j hj => ?_⟩ ((threat_iff hb hP hS).1 h)
  · have := (given_own hP).1 hj
    rw [List.getElem?_set_ne (fun e => by subst e; rw [hk] at this; have := Option.some.inj this; omega)]; exact this
  · refine (given_other hP).2 ?_
    rw [List.getElem?_set] at hj
    split at hj
    · rename_i e; subst e; exact .inr ⟨hk, hkS⟩
    · exact .inl hj
theorem wins_met {S k : Nat} (hS : S < 2 ^ xs.length) (h : threatL (R : Int) (C : Int) xs (P : Int) (S : Int) = true) (hw : winsB (R : Int) (C : Int) xs ((3 - P : Nat) : Int) k = true) : S.testBit k = true := by
  have hO : 3 - P = 1 ∨ 3 - P = 2 := by omega
  cases e : S.testBit k with
  | true => rfl
  | false =>
    have hw' := winsB_iff.1 hw
    have := threat_meet hb hP hS h (moveL_iff.1 hw'.1).2.2.1 e
    have h2 := hw'.2
    rw [show (3 : Int) - ((3 - P : Nat) : Int) = (P : Int) by omega, this] at h2
    omega
/-- Two threats without a common free cell carry together. -/
theorem two_threats {A B U : Nat} (hA : A < 2 ^ xs.length) (hB : B < 2 ^ xs.length) (hU : U < 2 ^ xs.length) (hAB : ∀ j, xs[j]? = some 0 → A.testBit j = true → B.testBit j = true → False) (hUAB : ∀ j, xs[j]? = some 0 → (U.testBit j = true ↔ A.testBit j = true ∨ B.testBit j = true))
    (h1 : threatL (R : Int) (C : Int) xs (P : Int) (A : Int) = true) (h2 : threatL (R : Int) (C : Int) xs (P : Int) (B : Int) = true) : carrierL (R : Int) (C : Int) xs (P : Int) (U : Int) = true := by
  have hO : 3 - P = 1 ∨ 3 - P = 2 := by omega
  have e3 : ((3 - P : Nat) : Int) = 3 - (P : Int) := by omega
  have hg := given_pos hP U hb
  have hgA := given_pos hP A hb
  have hgS := sides_pos hg
  rw [carrier_iff hb hP hU]
  have t1 := (threat_iff hb hP hA).1 h1
  have hno : joinsL (R : Int) (C : Int) (givenL xs (P : Int) U) ((3 - P : Nat) : Int) = false := by
    cases e : joinsL (R : Int) (C : Int) (givenL xs (P : Int) U) ((3 - P : Nat) : Int) with
    | false => rfl
    | true =>
      have hj := joinsL_better hg hgA hO (fun j hj => by
        rw [e3] at hj ⊢
        exact (given_more hP (S := A) (S' := U) fun j hj0 hAj => (hUAB j hj0).2 (.inl hAj)).2 j hj) e
      have := winL_done hgA (sides_pos hgA) hO hP hj
      rw [t1] at this; omega
  cases e : joinsL (R : Int) (C : Int) (givenL xs (P : Int) U) (P : Int) with
  | true => exact winL_done hg hgS hP hO e
  | false =>
    have hj12 : joinsL (R : Int) (C : Int) (givenL xs (P : Int) U) 1 = false ∧ joinsL (R : Int) (C : Int) (givenL xs (P : Int) U) 2 = false := by
      rcases hP with rfl | rfl
      · exact ⟨e, hno⟩
      · exact ⟨hno, e⟩
    obtain ⟨V, hV, hV2⟩ := winL_cases hg hO
    by_cases hVP : V = P
    · rw [hV, hVP]
    · have hVO : V = 3 - P := by omega
      rw [hVO] at hV
      obtain ⟨k, hk, hw⟩ := (winL_open hg hgS hO hj12.1 hj12.2).1 hV
      rw [show (3 : Int) - ((3 - P : Nat) : Int) = (P : Int) by omega] at hw
      obtain ⟨hk0, hkU⟩ := (given_free hP).1 hk
      have key : ∀ D : Nat, D < 2 ^ xs.length → threatL (R : Int) (C : Int) xs (P : Int) (D : Int) = true → D.testBit k = false → (∀ j, xs[j]? = some 0 → D.testBit j = true → U.testBit j = true) → False := by
        intro D hD hDt hDk hDU
        have := winL_better (given_pos hP D hb) (pos_set hg hO k) hP hP ⟨fun j hj => ?_, fun j hj => ?_⟩ ((threat_iff hb hP hD).1 hDt)
        · rw [this] at hw; omega
        · have hj' := (given_own hP).1 hj
          rw [List.getElem?_set_ne (fun e => by subst e; rw [hk0] at hj'; have := Option.some.inj hj'; omega)]
          exact (given_own hP).2 hj'
        · rw [List.getElem?_set] at hj
          split at hj
          · rename_i e; subst e; exact (given_other hP).2 (.inr ⟨hk0, hDk⟩)
          · exact (given_more hP (S := D) (S' := U) hDU).2 j hj
      rcases (hUAB k hk0).1 hkU with hA' | hB'
      · refine (key B hB h2 ?_ fun j hj hj2 => (hUAB j hj).2 (.inr hj2)).elim
        cases e2 : B.testBit k with
        | false => rfl
        | true => exact (hAB k hk0 hA' e2).elim
      · refine (key A hA h1 ?_ fun j hj hj2 => (hUAB j hj).2 (.inl hj2)).elim
        cases e2 : A.testBit k with
        | false => rfl
        | true => exact (hAB k hk0 e2 hB').elim
end

end Go.Proofs.YtlfjjjhjjmikfaaDoor

/- The program's sets of cells: the cells with a stone, the sides, growing and gaps, walked through with the rules of XW. -/
namespace Go.Proofs.YtlfjjjhjjmikfaaDoor
open Go Go.Ip G

/-! ### sets, without program text -/
theorem bit_of_ne {w : Nat} (h : w ≠ 0) : ∃ j, w.testBit j = true := by
  apply Classical.byContradiction
  intro hh
  refine h (Nat.eq_of_testBit_eq fun j => ?_)
  rw [Nat.zero_testBit]
  cases e : w.testBit j with
  | false => rfl
  | true => exact (hh ⟨j, e⟩).elim

theorem orAll_or : ∀ (L : List Int) (w : Nat), orAll w L = w ||| orAll 0 L
  | [], w => by simp [orAll]
  | e :: l, w => by rw [orAll, orAll_or l, orAll, orAll_or l (0 ||| _), Nat.zero_or, Nat.or_assoc]

theorem wide_step {R C S : Nat} (hB : BoardOf R C) : ∀ (m i w : Nat), i + m = R * C → wideFrom R C S m i w = stepFrom (2 ^ 9 - 1) S i ((masksN R C).drop i) w
  | 0, i, w, h => by rw [List.drop_eq_nil_of_le (by rw [masksN_length]; omega)]; rfl
  | m + 1, i, w, h => by
    have hi : i < (masksN R C).length := by rw [masksN_length]; omega
    have hm : (masksN R C)[i] = orAll 0 (nearN R C i) := by simp [masksN]
    have hlt : (masksN R C)[i] < 2 ^ 9 := masksN_lt hB _ (List.getElem_mem hi)
    have ha : (masksN R C)[i] &&& (2 ^ 9 - 1) = (masksN R C)[i] := by rw [Nat.and_two_pow_sub_one_eq_mod, Nat.mod_eq_of_lt hlt]
    rw [wideFrom, List.drop_eq_getElem_cons hi, stepFrom, Nat.and_one_is_mod, wide_step hB m (i + 1) _ (by omega), ha, hm]
    congr 1
    by_cases e : S >>> i % 2 = 1
    · rw [if_pos e, if_neg (by omega), orAll_or]
    · rw [if_neg e, if_pos (by omega)]

theorem wide_bit {R C S : Nat} (hB : BoardOf R C) (j : Nat) : (wideN R C S).testBit j = true ↔ S.testBit j = true ∨ ∃ k, S.testBit k = true ∧ Adj (masksN R C) k j := by
  unfold wideN
  rw [wide_step hB _ 0 S (by omega), List.drop_zero, stepFrom_bit]
  refine or_congr_right ⟨fun ⟨i, h1, h2, _⟩ => ⟨i, by simpa using h1, h2⟩, fun ⟨i, h1, h2⟩ => ⟨i, by simpa using h1, h2, ?_⟩⟩
  have := (adj_in hB h2).2
  have h9 := hB.2.2.2.2
  rw [Nat.testBit_two_pow_sub_one]; simp; omega

theorem wide_lt {R C S : Nat} (hB : BoardOf R C) (hS : S < 2 ^ 9) : wideN R C S < 2 ^ 9 := by
  obtain ⟨h1, h2, h3, h4, h9⟩ := hB; exact wideFrom_lt h1 h2 h3 h4 h9 _ _ _ (by omega) hS

theorem grown_is {M : List Nat} {S T X : Nat} (hS : S < 2 ^ 9) (hT : T < 2 ^ 9) (h0 : ∀ j, S.testBit j = true → X.testBit j = true) (hr : ∀ j, X.testBit j = true → Reach M (S ||| T) S j)
    (hc : ∀ k j, X.testBit k = true → Adj M k j → T.testBit j = true → X.testBit j = true) : X = growN M (S ||| T) S := by
  apply Nat.eq_of_testBit_eq
  intro j
  rw [Bool.eq_iff_iff, grow_bit (Nat.or_lt_two_pow hS hT)]
  refine ⟨hr j, fun h => ?_⟩
  induction h with
  | start h _ => exact h0 _ h
  | step _ ha hs ih =>
    rw [Nat.testBit_or, Bool.or_eq_true] at hs
    rcases hs with hs | hs
    · exact h0 _ hs
    · exact hc _ _ ih ha hs

theorem grown_in {M : List Nat} {own first : Nat} : growN M ((first &&& own) ||| own) (first &&& own) = growN M own first := by
  have : (first &&& own) ||| own = own := by
    apply Nat.eq_of_testBit_eq; intro j
    rw [Nat.testBit_or, Nat.testBit_and]; cases first.testBit j <;> cases own.testBit j <;> rfl
  rw [this]
  unfold growN
  rw [Nat.and_assoc, Nat.and_self]

theorem listN_filter (S : Nat) : listN S = ((List.range 9).filter S.testBit).map fun k : Nat => (k : Int) := by
  have : ∀ m k, listFrom S m k = ((List.range' k m).filter S.testBit).map fun k : Nat => (k : Int) := by
    intro m
    induction m with
    | zero => intro k; rfl
    | succ m ih =>
      intro k
      rw [listFrom, List.range'_succ, List.filter_cons, ih]
      by_cases e : S >>> k % 2 = 1
      · rw [if_pos e, if_pos ((bit_iff S k).1 e), List.map_cons]
      · rw [if_neg e, if_neg (fun h => e ((bit_iff S k).2 h))]
  rw [List.range_eq_range']; exact this 9 0

variable (g : Nat → PV) (lf n : Nat)

/-! ### the program -/
theorem playerOk_W (N : Nat) (hN : 1 ≤ N) (h : PHeap) (p : Int) : CL g lf N fn_impl_playerOk [.int .i64 p] h = some (.bool (playerB p), h) := by
  obtain ⟨n, rfl⟩ : ∃ n, N = n + 1 := ⟨N - 1, by omega⟩
  have : W (CL g lf (n + 1) fn_impl_playerOk [.int .i64 p] h) fun v h' => v = .bool (playerB p) ∧ h' = h := by
    rw [impl_playerOk.call_eq]
    unfold impl_playerOk.main
    simp only [env_pick, env_bin]
    refine weql (fun e => ?_) (fun e => ?_)
    · repeat (first | with_reducible refine wg0 rfl ?_ | with_reducible refine wpT ?_ | with_reducible refine wsm ?_ | with_reducible refine wrB ?_ | dsimp only)
      exact W.ret ⟨by subst e; rfl, rfl⟩
    · repeat (first | with_reducible refine wg1 rfl ?_ | with_reducible refine wpv ?_ | with_reducible refine wsm ?_ | dsimp only)
      refine weql (fun e2 => ?_) (fun e2 => ?_)
      · repeat (first | with_reducible refine wpF ?_ | with_reducible refine wrB ?_)
        exact W.ret ⟨by subst e2; rfl, rfl⟩
      · repeat (first | with_reducible refine wpF ?_ | with_reducible refine wrB ?_)
        exact W.ret ⟨by rw [show playerB p = false by unfold playerB; exact decide_eq_false (by omega)], rfl⟩
  obtain ⟨_, _, e, rfl, rfl⟩ := this
  exact e

theorem setOf_W {xs : List Int} {p : PV} {h : PHeap} (what : Int) (hp : IntSl .i64 h p xs) (hl : xs.length ≤ 20) (N : Nat) (hN : 1 ≤ N) (hlf : 1000 < lf) :
    CL g lf N fn_impl_setOf [p, .int .i64 what] h = some (.int .i64 (setL xs what : Int), h) := by
  obtain ⟨n, rfl⟩ : ∃ n, N = n + 1 := ⟨N - 1, by omega⟩
  have : W (CL g lf (n + 1) fn_impl_setOf [p, .int .i64 what] h) fun v h' => v = .int .i64 (setL xs what : Int) ∧ h' = h := by
    rw [impl_setOf.call_eq]
    unfold impl_setOf.main
    simp only [env_lf, env_len]
    repeat (first | with_reducible refine wlen (by assumption) ?_)
    refine loopW (fun m s => ∃ i w : Nat, s = impl_setOf.st0 (.int .i64 what) (.int .i64 (w : Int)) p (.int .i64 (xs.length : Int)) (.int .i64 (i : Int)) h ∧ i + m = xs.length ∧ w < 2 ^ 30 ∧ setFrom what i (xs.drop i) w = setL xs what) ?_ lf xs.length _ (by omega) ⟨0, 0, rfl, by omega, by decide, rfl⟩
    rintro n1 m s ⟨i, w, rfl, him, hw, hset⟩ next
    rw [impl_setOf.body0_eq]
    unfold impl_setOf.body0
    simp only [env_load, env_bin, env_indexAddr]
    by_cases hi : i < xs.length
    · have hdx : xs.drop i = xs[i] :: xs.drop (i + 1) := List.drop_eq_getElem_cons hi
      have h30 : 1 <<< i < 2 ^ 30 := by rw [Nat.one_shiftLeft]; exact Nat.pow_lt_pow_right (by decide) (by omega)
      rw [hdx, setFrom] at hset
      repeat (first | with_reducible refine wT ?_ | with_reducible refine wbd (by assumption) ?_ | (with_reducible refine wat hp hi fun a hl => ?_) | with_reducible refine wlssT (by omega) ?_)
      refine weql (fun e => ?_) (fun e => ?_)
      · repeat (first | with_reducible refine wT ?_ | with_reducible refine wadd1 (by omega) ?_ | with_reducible refine wshl (by omega) ?_ | with_reducible refine wor (by omega) (by omega) ?_)
        rw [if_pos e] at hset
        exact next _ _ (show m - 1 < m by omega) ⟨i + 1, _, rfl, by omega, Nat.or_lt_two_pow hw h30, hset⟩
      · repeat (first | with_reducible refine wF ?_ | with_reducible refine wadd1 (by omega) ?_)
        rw [if_neg e] at hset
        exact next _ _ (show m - 1 < m by omega) ⟨i + 1, _, rfl, by omega, hw, hset⟩
    · rw [List.drop_eq_nil_of_le (by omega), setFrom] at hset
      repeat (first | with_reducible refine wF ?_ | with_reducible refine wrI ?_ | with_reducible refine wlssF (by omega) ?_ | rw [kLoop_exit] | rw [impl_setOf.after0_se0_1_5_8_9_10_11])
      exact W.ret ⟨by rw [hset], rfl⟩
  obtain ⟨_, _, e, rfl, rfl⟩ := this
  exact e

theorem cellsIn_W {S : Nat} (hS : S < 2 ^ 9) (N : Nat) (hN : 1 ≤ N) (hlf : 1000 < lf) (h : PHeap) :
    W (CL g lf N fn_impl_cellsIn [.int .i64 (S : Int)] h) fun q h' => OwnSl h.length h' q (listN S) ∧ Keep h.length h h' := by
  obtain ⟨n, rfl⟩ : ∃ n, N = n + 1 := ⟨N - 1, by omega⟩
  rw [impl_cellsIn.call_eq]
  unfold impl_cellsIn.main
  simp only [env_lf]
  refine loopW (fun m s => ∃ (i : Nat) (ys : List Int) (q : PV) (h1 : PHeap), s = impl_cellsIn.st0 (.int .i64 (S : Int)) q (.int .i64 (i : Int)) h1 ∧ i + m = 9 ∧ ys.length ≤ i ∧ ys ++ listFrom S m i = listN S ∧ OwnSl h.length h1 q ys ∧ Keep h.length h h1) ?_ lf 9 _ (by omega) ⟨0, [], _, h, rfl, by omega, by simp, rfl, OwnSl.nil _ _, Keep.refl _ _⟩
  rintro n1 m s ⟨i, ys, q, h1, rfl, him, hy, hL, o1, k1⟩ next
  rw [impl_cellsIn.body0_eq]
  unfold impl_cellsIn.body0
  simp only [env_buildSlice, env_bin, env_append]
  cases m with
  | zero =>
    rw [listFrom, List.append_nil] at hL
    repeat (first | with_reducible refine wF ?_ | with_reducible refine wlssF (by omega) ?_ | with_reducible refine wresO (by assumption) ?_ | rw [kLoop_exit] | rw [impl_cellsIn.after0_se0_0_3_5_6])
    exact W.ret ⟨hL ▸ o1, k1⟩
  | succ m =>
    have hsh : S >>> i < 2 ^ 62 := by have : S >>> i ≤ S := by { rw [Nat.shiftRight_eq_div_pow]; exact Nat.div_le_self _ _ }; omega
    rw [listFrom, ← Nat.and_one_is_mod] at hL
    repeat (first | with_reducible refine wT ?_ | with_reducible refine wshr (by omega) ?_ | with_reducible refine wlssT (by omega) ?_)
    refine wbd (f_and (a := S >>> i) (b := 1) hsh (by decide)) ?_
    refine weql (fun e => ?_) (fun e => ?_)
    · have e' : S >>> i &&& 1 = 1 := by simpa using Int.ofNat_inj.1 e
      rw [if_pos e'] at hL
      repeat (first | with_reducible refine wT ?_ | (refine wap o1 k1.1 (by omega) fun p' h' o2 k2 => ?_) | with_reducible refine wadd1 (by omega) ?_ | dsimp only)
      exact next _ _ (Nat.lt_succ_self m) ⟨i + 1, ys ++ [(i : Int)], p', h', rfl, by omega, by simp; omega, by rw [List.append_assoc]; exact hL, o2, k1.trans k2⟩
    · have e' : ¬ S >>> i &&& 1 = 1 := fun e2 => e (by rw [e2]; rfl)
      rw [if_neg e'] at hL
      repeat (first | with_reducible refine wF ?_ | with_reducible refine wadd1 (by omega) ?_)
      exact next _ _ (Nat.lt_succ_self m) ⟨i + 1, ys, q, h1, rfl, by omega, by omega, hL, o1, k1⟩

theorem sidesOf_W {R C P : Nat} (hB : BoardOf R C) (hP : P = 1 ∨ P = 2) (N : Nat) (hN : 1 ≤ N) (hlf : 1000 < lf) (h : PHeap) :
    CL g lf N fn_impl_sidesOf [.int .i64 (R : Int), .int .i64 (C : Int), .int .i64 (P : Int)] h = some (.tup [.int .i64 (sideN R C P false : Int), .int .i64 (sideN R C P true : Int)], h) := by
  obtain ⟨n, rfl⟩ : ∃ n, N = n + 1 := ⟨N - 1, by omega⟩
  have : W (CL g lf (n + 1) fn_impl_sidesOf [.int .i64 (R : Int), .int .i64 (C : Int), .int .i64 (P : Int)] h) fun v h' => v = .tup [.int .i64 (sideN R C P false : Int), .int .i64 (sideN R C P true : Int)] ∧ h' = h := by
    obtain ⟨h1, h2, h3, h4, h9⟩ := id hB
    rw [impl_sidesOf.call_eq]
    unfold impl_sidesOf.main
    simp only [env_lf, env_bin]
    repeat (first | with_reducible refine wmulN (by omega) ?_)
    refine loopW (fun m s => ∃ i w1 w2 : Nat, s = impl_sidesOf.st0 (.int .i64 (R : Int)) (.int .i64 (C : Int)) (.int .i64 (P : Int)) (.int .i64 (w1 : Int)) (.int .i64 (w2 : Int)) (.int .i64 ((R * C : Nat) : Int)) (.int .i64 (i : Int)) h ∧ i + m = R * C ∧ w1 < 2 ^ 9 ∧ w2 < 2 ^ 9 ∧ sideFrom R C P false m i w1 = sideN R C P false ∧ sideFrom R C P true m i w2 = sideN R C P true) ?_ lf (R * C) _ (by omega) ⟨0, 0, 0, rfl, by omega, by decide, by decide, rfl, rfl⟩
    rintro n1 m s ⟨i, w1, w2, rfl, him, hw1, hw2, hs1, hs2⟩ next
    rw [impl_sidesOf.body0_eq]
    unfold impl_sidesOf.body0
    simp only [env_bin]
    cases m with
    | zero =>
      rw [sideFrom] at hs1 hs2
      repeat (first | with_reducible refine wF ?_ | with_reducible refine wrI ?_ | with_reducible refine wlssF (by omega) ?_ | rw [kLoop_exit] | rw [impl_sidesOf.after0_se0_0_1_2_8_9_15_16_17])
      exact W.ret ⟨by rw [hs1, hs2], rfl⟩
    | succ m =>
      have hsl := shl_lt (show i < 9 by omega)
      rw [sideFrom] at hs1 hs2
      simp only [cond_true, cond_false, decide_eq_true_eq] at hs1 hs2
      obtain ⟨x, hx⟩ : ∃ x, x = atSide C P i := ⟨_, rfl⟩
      obtain ⟨y, hy⟩ : ∃ y, y = endSide R C P := ⟨_, rfl⟩
      rw [← hx] at hs1 hs2
      rw [← hy] at hs2
      have l1 := Nat.or_lt_two_pow hw1 hsl
      have l2 := Nat.or_lt_two_pow hw2 hsl
      rcases hP with rfl | rfl
      · have hx' : x = i / C := hx
        have hy' : y = R - 1 := hy
        by_cases a0 : x = 0 <;> by_cases a1 : x = y 
        all_goals
          first | rw [if_pos a0] at hs1 | rw [if_neg a0] at hs1
          first | rw [if_pos a1] at hs2 | rw [if_neg a1] at hs2
          repeat (first | with_reducible refine wT ?_ | with_reducible refine wF ?_ | (rw [← hx', ← hy']) | with_reducible refine wadd1 (by omega) ?_ | with_reducible refine wsub1 (by omega) (by omega) ?_ | with_reducible refine wquoN (by omega) (by omega) ?_ | with_reducible refine wshl (by omega) ?_ | with_reducible refine wor (by omega) (by omega) ?_ | with_reducible refine wlssT (by omega) ?_ | with_reducible refine weqlT (by omega) ?_ | with_reducible refine weqlF (by omega) ?_)
          first
            | exact next _ _ (Nat.lt_succ_self m) ⟨i + 1, _, _, rfl, by omega, l1, l2, hs1, hs2⟩
            | exact next _ _ (Nat.lt_succ_self m) ⟨i + 1, _, _, rfl, by omega, hw1, l2, hs1, hs2⟩
            | exact next _ _ (Nat.lt_succ_self m) ⟨i + 1, _, _, rfl, by omega, l1, hw2, hs1, hs2⟩
            | exact next _ _ (Nat.lt_succ_self m) ⟨i + 1, _, _, rfl, by omega, hw1, hw2, hs1, hs2⟩
      · have hx' : x = i % C := hx
        have hy' : y = C - 1 := hy
        by_cases a0 : x = 0 <;> by_cases a1 : x = y 
        all_goals
          first | rw [if_pos a0] at hs1 | rw [if_neg a0] at hs1
          first | rw [if_pos a1] at hs2 | rw [if_neg a1] at hs2
          repeat (first | with_reducible refine wT ?_ | with_reducible refine wF ?_ | (rw [← hx', ← hy']) | with_reducible refine wadd1 (by omega) ?_ | with_reducible refine wsub1 (by omega) (by omega) ?_ | with_reducible refine wquoN (by omega) (by omega) ?_ | with_reducible refine wremN (by omega) ?_ | with_reducible refine wshl (by omega) ?_ | with_reducible refine wor (by omega) (by omega) ?_ | with_reducible refine wlssT (by omega) ?_ | with_reducible refine weqlT (by omega) ?_ | with_reducible refine weqlF (by omega) ?_)
          first
            | exact next _ _ (Nat.lt_succ_self m) ⟨i + 1, _, _, rfl, by omega, l1, l2, hs1, hs2⟩
            | exact next _ _ (Nat.lt_succ_self m) ⟨i + 1, _, _, rfl, by omega, hw1, l2, hs1, hs2⟩
            | exact next _ _ (Nat.lt_succ_self m) ⟨i + 1, _, _, rfl, by omega, l1, hw2, hs1, hs2⟩
            | exact next _ _ (Nat.lt_succ_self m) ⟨i + 1, _, _, rfl, by omega, hw1, hw2, hs1, hs2⟩
  obtain ⟨_, _, e, rfl, rfl⟩ := this
  exact e

theorem grown_W {R C S T : Nat} (hB : BoardOf R C) (hS : S < 2 ^ 9) (hT : T < 2 ^ 9) (N : Nat) (hN : 6 ≤ N) (hlf : 1000 < lf) {h : PHeap} (ht : Tab g h) :
    ∃ h', CL g lf N fn_impl_grown [.int .i64 (R : Int), .int .i64 (C : Int), .int .i64 (S : Int), .int .i64 (T : Int)] h = some (.int .i64 (growN (masksN R C) (S ||| T) S : Int), h') ∧ Keep h.length h h' := by
  obtain ⟨n, rfl⟩ : ∃ n, N = n + 1 := ⟨N - 1, by omega⟩
  have : W (CL g lf (n + 1) fn_impl_grown [.int .i64 (R : Int), .int .i64 (C : Int), .int .i64 (S : Int), .int .i64 (T : Int)] h) fun v h' => v = .int .i64 (growN (masksN R C) (S ||| T) S : Int) ∧ Keep h.length h h' := by
    rw [impl_grown.call_eq]
    unfold impl_grown.main
    simp only [env_lf]
    refine loopW (fun m s => ∃ (X w : Nat) (h1 : PHeap), s = impl_grown.st0 (.int .i64 (R : Int)) (.int .i64 (C : Int)) (.int .i64 (X : Int)) (.int .i64 (T : Int)) (.int .i64 (w : Int)) h1 ∧ Keep h.length h h1 ∧ Tab g h1 ∧ X < 2 ^ 9 ∧ (∀ j, w.testBit j = true → X.testBit j = true) ∧
      (∀ j, S.testBit j = true → X.testBit j = true) ∧ (∀ j, X.testBit j = true → Reach (masksN R C) (S ||| T) S j) ∧ (∀ k j, X.testBit k = true → w.testBit k = false → Adj (masksN R C) k j → T.testBit j = true → X.testBit j = true) ∧ m = (512 - X) + (if w = 0 then 0 else 1)) ?_ lf (512 - S + (if S = 0 then 0 else 1)) _ (by split <;> omega)
      ⟨S, S, h, rfl, Keep.refl _ _, ht, hS, fun _ h => h, fun _ h => h, fun j hj => .start hj (by rw [Nat.testBit_or, hj]; rfl), fun k j h1 h2 _ _ => (by rw [h1] at h2; cases h2), rfl⟩
    rintro n1 m s ⟨X, w, h1, rfl, k1, t1, hX, hw, hSX, hXr, hc, hm⟩ next
    rw [impl_grown.body0_eq]
    unfold impl_grown.body0
    simp only [env_C, env_bin]
    by_cases e : w = 0
    · repeat (first | with_reducible refine wF ?_ | with_reducible refine wrI ?_ | with_reducible refine wneqF (by omega) ?_ | rw [kLoop_exit] | rw [impl_grown.after0_se0_0_1_2_3_9_12])
      refine W.ret ⟨?_, k1⟩
      rw [grown_is hS hT hSX hXr fun k j h1 h2 h3 => hc k j h1 (by rw [e, Nat.zero_testBit]) h2 h3]
    · have hw9 : w < 2 ^ 9 := Nat.lt_of_le_of_lt (sub_le hw) hX
      obtain ⟨b1, b2, b3, b4, b5⟩ := id hB
      obtain ⟨h2, e2, k2⟩ := withNear_calls g lf b1 b2 b3 b4 b5 hw9 n (by omega) (by omega) t1
      have hwl := wide_lt hB hw9
      have hal : wideN R C w &&& T < 2 ^ 9 := Nat.and_lt_two_pow _ hT
      have hml : minusN (wideN R C w &&& T) X < 2 ^ 9 := minusN_lt hal
      repeat (first | with_reducible refine wT ?_ | with_reducible refine wbd (by assumption) ?_ | with_reducible refine wand (by omega) (by omega) ?_ | with_reducible refine wor (by omega) (by omega) ?_ | with_reducible refine wandNot (by omega) (by omega) ?_ | with_reducible refine wneqT (by omega) ?_ | dsimp only)
      obtain ⟨w', hw'⟩ : ∃ w', w' = minusN (wideN R C w &&& T) X := ⟨_, rfl⟩
      have hb : ∀ j, w'.testBit j = true ↔ (w.testBit j = true ∨ ∃ k, w.testBit k = true ∧ Adj (masksN R C) k j) ∧ T.testBit j = true ∧ X.testBit j = false := fun j => by
        rw [hw', minusN_bit, Nat.testBit_and, ← wide_bit hB]; cases (wideN R C w).testBit j <;> cases T.testBit j <;> cases X.testBit j <;> simp
      rw [← hw'] at hml ⊢
      have hor : X ||| w' < 2 ^ 9 := Nat.or_lt_two_pow hX hml
      have hle : X ≤ X ||| w' := Nat.left_le_or
      have hne : w' ≠ 0 → X ≠ X ||| w' := fun hz he => by
        obtain ⟨j, hj⟩ := bit_of_ne hz
        have h1 := ((hb j).1 hj).2.2
        rw [he, Nat.testBit_or, hj, Bool.or_true] at h1; cases h1
      refine next _ _ ?_ ⟨X ||| w', w', h2, rfl, k1.trans (k2.mono k1.1), t1.keep k2, hor, fun j hj => by rw [Nat.testBit_or, hj, Bool.or_true], fun j hj => by rw [Nat.testBit_or, hSX j hj, Bool.true_or], ?_, ?_, rfl⟩
      · rw [hm, if_neg e]
        by_cases e' : w' = 0
        · rw [if_pos e']; omega
        · rw [if_neg e']; have := hne e'; omega
      · intro j hj
        rw [Nat.testBit_or, Bool.or_eq_true] at hj
        rcases hj with hj | hj
        · exact hXr j hj
        · obtain ⟨h1 | ⟨k, h1, h2⟩, h3, h4⟩ := (hb j).1 hj
          · rw [hw j h1] at h4; cases h4
          · exact .step (hXr k (hw k h1)) h2 (by rw [Nat.testBit_or, h3, Bool.or_true])
      · intro k j h1 h2 h3 h4
        rw [Nat.testBit_or, h2, Bool.or_false] at h1
        rw [Nat.testBit_or]
        by_cases hk : w.testBit k = true
        · cases hx : X.testBit j with
          | true => rfl
          | false => rw [(hb j).2 ⟨.inr ⟨k, hk, h3⟩, h4, hx⟩]; rfl
        · rw [hc k j h1 (by simpa using hk) h3 h4]; rfl
  obtain ⟨_, h', e, rfl, k⟩ := this
  exact ⟨h', e, k⟩

/-- What a next wave adds: the same as the model's. -/
theorem wave_is {R C : Nat} (hB : BoardOf R C) {x free edge : Nat} : x ||| minusN ((edge ||| wideN R C x) &&& free) x = stepFrom free x 0 (masksN R C) (x ||| (edge &&& free)) := by
  apply Nat.eq_of_testBit_eq
  intro j
  rw [Bool.eq_iff_iff, stepFrom_bit, Nat.testBit_or, minusN_bit, Nat.testBit_and, Nat.testBit_or, Nat.testBit_or, Nat.testBit_and]
  have hb := wide_bit (S := x) hB j
  constructor
  · intro h
    simp only [Bool.or_eq_true, Bool.and_eq_true] at h
    rcases h with h | ⟨⟨h | h, hf⟩, _⟩
    · left; simp [h]
    · left; simp [h, hf]
    · rcases hb.1 h with h | ⟨k, h1, h2⟩
      · left; simp [h]
      · right; exact ⟨k, by simpa using h1, h2, hf⟩
  · rintro (h | ⟨k, h1, h2, h3⟩)
    · simp only [Bool.or_eq_true, Bool.and_eq_true] at h
      rcases h with h | ⟨h1, h2⟩
      · simp [h]
      · cases hx : x.testBit j <;> simp [h1, h2]
    · have := hb.2 (.inr ⟨k, by simpa using h1, h2⟩)
      cases hx : x.testBit j <;> simp [this, h3]

end Go.Proofs.YtlfjjjhjjmikfaaDoor

/- The model's chapters 4 and 5: what Openings, PairCell, PairFilled, MattersAt, DeadCells, FillCount and PivotCount of it compute. -/
namespace Go.Proofs.YtlfjjjhjjmikfaaDoor
open Go Go.Ip G

theorem f_shlN (x y : Nat) (hx : x ≤ 512) (hy : y ≤ 30) : binP Tryd.prog .shl 3 (.int .i64 (x : Int)) (.int .i64 (y : Int)) = some (.int .i64 ((x <<< y : Nat) : Int)) := by
  have h0 : ¬ ((y : Int) < 0) := by omega
  have hm : min ((y : Int).toNat) (IntKind.i64.bits) = y := by
    have : IntKind.i64.bits = 64 := rfl
    rw [this]; omega
  simp only [binP, shI, if_neg h0, hm]
  congr 2
  rw [Nat.shiftLeft_eq]
  have : ((2 : Int) ^ y) = ((2 ^ y : Nat) : Int) := by simp
  rw [this, ← Int.natCast_mul]
  have hle : 2 ^ y ≤ 2 ^ 30 := Nat.pow_le_pow_right (by decide) hy
  have : x * 2 ^ y ≤ 512 * 2 ^ 30 := Nat.mul_le_mul hx hle
  exact wr (by omega)

section
variable {Q : PV → PHeap → Prop} {x y : Nat} {f : PV → Res}
theorem wshlN (hx : x ≤ 512) (hy : y ≤ 30) (hf : W (f (.int .i64 ((x <<< y : Nat) : Int))) Q) : W ((binP Tryd.prog .shl 3 (.int .i64 (x : Int)) (.int .i64 (y : Int))).bind f) Q := wbd (f_shlN x y hx hy) hf
theorem wquo2 (h2 : x < 9223372036854775808) (hf : W (f (.int .i64 ((x / 2 : Nat) : Int))) Q) : W ((binP Tryd.prog .quo 3 (.int .i64 (x : Int)) (.int .i64 2)).bind f) Q :=
  wbd (by
    rw [bin_quo (by decide)]
    have : (x : Int).tdiv 2 = ((x / 2 : Nat) : Int) := rfl
    rw [this]
    have : IntKind.i64.wrap ((x / 2 : Nat) : Int) = ((x / 2 : Nat) : Int) := wr (by omega)
    rw [this]) hf
end

variable (g : Nat → PV) (lf n : Nat)

/-! ### pairs -/
theorem pair_W {R C k : Nat} (hB : BoardOf R C) (hk : k < R * C) (N : Nat) (hN : 1 ≤ N) (h : PHeap) : CL g lf N fn_spec_l4Pair [.int .i64 (R : Int), .int .i64 (C : Int), .int .i64 (k : Int)] h = some (.int .i64 (pairI R C k), h) := by
  obtain ⟨n, rfl⟩ : ∃ n, N = n + 1 := ⟨N - 1, by omega⟩
  obtain ⟨h1, h2, h3, h4, h9⟩ := hB
  have : W (CL g lf (n + 1) fn_spec_l4Pair [.int .i64 (R : Int), .int .i64 (C : Int), .int .i64 (k : Int)] h) fun v h' => v = .int .i64 (pairI R C k) ∧ h' = h := by
    unfold pairI
    obtain ⟨x, hx⟩ : ∃ x, x = k / C := ⟨_, rfl⟩
    obtain ⟨y, hy⟩ : ∃ y, y = k % C := ⟨_, rfl⟩
    have hx9 : x ≤ 9 := by rw [hx]; exact Nat.le_trans (Nat.div_le_self _ _) (by omega)
    have hy9 : y ≤ 9 := by rw [hy]; exact Nat.le_trans (Nat.mod_le _ _) (by omega)
    have m1 : (y - 1) * C ≤ 36 := Nat.mul_le_mul (show y - 1 ≤ 9 by omega) h4
    have m2 : y * C ≤ 36 := Nat.mul_le_mul hy9 h4
    rw [spec_l4Pair.call_eq]
    unfold spec_l4Pair.main
    simp only [env_bin]
    rw [← hx, ← hy]
    by_cases c1 : R < y
    · rw [if_pos c1]
      repeat (first | with_reducible refine wT ?_ | with_reducible refine wrI ?_ | (rw [← hx, ← hy]) | with_reducible refine wquoN (by omega) (by omega) ?_ | with_reducible refine wremN (by omega) ?_ | with_reducible refine wgtrT (by omega) ?_)
      exact W.ret ⟨rfl, rfl⟩
    · rw [if_neg c1]
      by_cases c2 : x < y
      · rw [if_pos c2]
        repeat (first | with_reducible refine wT ?_ | with_reducible refine wF ?_ | with_reducible refine wrI ?_ | (rw [← hx, ← hy]) | with_reducible refine waddN (by omega) ?_ | with_reducible refine wsub1 (by omega) (by omega) ?_ | with_reducible refine wmulN (by omega) ?_ | with_reducible refine wquoN (by omega) (by omega) ?_ | with_reducible refine wremN (by omega) ?_ | with_reducible refine wgtrT (by omega) ?_ | with_reducible refine wgtrF (by omega) ?_)
        exact W.ret ⟨rfl, rfl⟩
      · rw [if_neg c2]
        repeat (first | with_reducible refine wF ?_ | with_reducible refine wrI ?_ | (rw [← hx, ← hy]) | with_reducible refine wadd1 (by omega) ?_ | with_reducible refine waddN (by omega) ?_ | with_reducible refine wmulN (by omega) ?_ | with_reducible refine wquoN (by omega) (by omega) ?_ | with_reducible refine wremN (by omega) ?_ | with_reducible refine wgtrF (by omega) ?_)
        exact W.ret ⟨rfl, rfl⟩
  obtain ⟨_, _, e, rfl, rfl⟩ := this
  exact e

theorem boardB_of {r c : Int} (h : boardB r c = true) : ∃ R C : Nat, r = (R : Int) ∧ c = (C : Int) ∧ BoardOf R C := by
  unfold boardB at h
  have := of_decide_eq_true h
  obtain ⟨R, rfl⟩ := Int.eq_ofNat_of_zero_le (show 0 ≤ r by omega)
  obtain ⟨C, rfl⟩ := Int.eq_ofNat_of_zero_le (show 0 ≤ c by omega)
  have h9 := this.2.2.2.2
  rw [← Int.natCast_mul] at h9
  exact ⟨R, C, rfl, rfl, by omega, by omega, by omega, by omega, by omega⟩
def pairL (r c k : Int) : Int := if (boardB r c && decide (r < c) && decide (0 ≤ k ∧ k < r * c)) = true then pairI r.toNat c.toNat k.toNat else -1
def pairFillL (r c ch : Int) : List Int := if (boardB r c && decide (r < c) && decide (0 ≤ ch)) = true then pairFillN r.toNat c.toNat ch.toNat else []
def openL (r c pl : Int) : List Int := if (boardB r c && playerB pl) = true then winCellsL r c (freeL r.toNat c.toNat) pl else []

theorem boardOk_spec (N : Nat) (hN : 2 ≤ N) (h : PHeap) (r c : Int) : CL g lf N fn_spec_BoardOk [.int .i64 r, .int .i64 c] h = some (.bool (boardB r c), h) := by
  obtain ⟨n, rfl⟩ : ∃ n, N = n + 2 := ⟨N - 2, by omega⟩
  exact specBoardOk_calls g lf n h r c

theorem pfF_length (R C : Nat) : ∀ (m k : Nat) (out : List Int) (ch : Nat), (pfF R C m k out ch).length = out.length
  | 0, _, _, _ => rfl
  | m + 1, k, out, ch => by
    rw [pfF]
    repeat' split
    all_goals rw [pfF_length R C m]
    all_goals simp

theorem specPairFilled_calls (N : Nat) (hN : 3 ≤ N) (hlf : 1000 < lf) (h : PHeap) (r c ch : Int) (hch : ch < 9223372036854775808) :
    ∃ q h', CL g lf N fn_spec_PairFilled [.int .i64 r, .int .i64 c, .int .i64 ch] h = some (q, h') ∧ OwnSl h.length h' q (pairFillL r c ch) ∧ Keep h.length h h' := by
  obtain ⟨n, rfl⟩ : ∃ n, N = n + 1 := ⟨N - 1, by omega⟩
  have e1 := boardOk_spec g lf n (by omega) h r c
  suffices this : W (CL g lf (n + 1) fn_spec_PairFilled [.int .i64 r, .int .i64 c, .int .i64 ch] h) fun q h' => OwnSl h.length h' q (pairFillL r c ch) ∧ Keep h.length h h' by
    obtain ⟨q, h', e, o, k⟩ := this
    exact ⟨q, h', e, o, k⟩
  unfold pairFillL
  rw [spec_PairFilled.call_eq]
  unfold spec_PairFilled.main
  simp only [env_C, env_lf, env_pick, env_buildSlice, env_bin, env_un, env_make]
  cases hb : boardB r c with
  | false =>
    rw [hb] at e1
    repeat (first | with_reducible refine wT ?_ | with_reducible refine wg0 rfl ?_ | with_reducible refine wpT ?_ | with_reducible refine wnF ?_ | with_reducible refine wsm ?_ | with_reducible refine wbd (by assumption) ?_ | (refine wempty fun q h1 o1 k1 => ?_) | with_reducible refine wresO (by assumption) ?_ | dsimp only)
    exact W.ret ⟨o1, k1⟩
  | true =>
    rw [hb] at e1
    obtain ⟨R, C, rfl, rfl, hB⟩ := boardB_of hb
    obtain ⟨h1, h2, h3, h4, h9⟩ := id hB
    by_cases hRC : R < C
    · rw [decide_eq_true (show (R : Int) < (C : Int) by omega), Bool.and_self, Bool.true_and]
      by_cases hc0 : ch < 0
      · rw [decide_eq_false (show ¬ 0 ≤ ch by omega)]
        repeat (first | with_reducible refine wT ?_ | with_reducible refine wg1 rfl ?_ | with_reducible refine wpF ?_ | with_reducible refine wnT ?_ | with_reducible refine wpv ?_ | with_reducible refine wsm ?_ | with_reducible refine wbd (by assumption) ?_ | (refine wempty fun q h1 o1 k1 => ?_) | with_reducible refine wlssT (by omega) ?_ | with_reducible refine wleqF (by omega) ?_ | with_reducible refine wresO (by assumption) ?_ | dsimp only)
        exact W.ret ⟨o1, k1⟩
      · rw [decide_eq_true (show 0 ≤ ch by omega), if_pos rfl]
        obtain ⟨D, rfl⟩ := Int.eq_ofNat_of_zero_le (show 0 ≤ ch by omega)
        repeat (first | with_reducible refine wF ?_ | with_reducible refine wg1 rfl ?_ | with_reducible refine wpF ?_ | with_reducible refine wnT ?_ | with_reducible refine wpv ?_ | with_reducible refine wsm ?_ | with_reducible refine wbd (by assumption) ?_ | (refine wmake (by omega) fun q h1 o1 k1 => ?_) | with_reducible refine wmulN (by omega) ?_ | with_reducible refine wlssF (by omega) ?_ | with_reducible refine wleqF (by omega) ?_ | dsimp only)
        refine loopW (fun m s => ∃ (k D' : Nat) (zs : List Int) (h2 : PHeap), s = spec_PairFilled.st0 (.int .i64 (R : Int)) (.int .i64 (C : Int)) (.int .i64 (D' : Int)) q (.int .i64 (k : Int)) h2 ∧ k + m = R * C ∧ D' ≤ D ∧ zs.length = R * C ∧ pfF R C m k zs D' = pairFillN R C D ∧ OwnSl h.length h2 q zs ∧ Keep h.length h h2) ?_ lf (R * C) _ (by omega) ⟨0, D, _, h1, rfl, by omega, Nat.le_refl _, by simp, rfl, o1, k1⟩
        rintro n1 m s ⟨k, D', zs, h2, rfl, hkm, hD, hz, hp, o2, k2⟩ next
        have hlen := o2.int.len'
        rw [hz] at hlen
        rw [spec_PairFilled.body0_eq]
        unfold spec_PairFilled.body0
        simp only [env_C, env_pick, env_store, env_bin, env_indexAddr, env_len]
        cases m with
        | zero =>
          repeat (first | with_reducible refine wF ?_ | with_reducible refine wbd (by assumption) ?_ | with_reducible refine wlssF (by omega) ?_ | with_reducible refine wresO (by assumption) ?_ | rw [kLoop_exit] | rw [spec_PairFilled.after0_se0_0_1_2_7_8_31])
          rw [pfF] at hp
          exact W.ret ⟨hp ▸ o2, k2⟩
        | succ m =>
          have hk : k < R * C := by omega
          have hkz : k < zs.length := by omega
          have e4 := fun hh => pair_W g lf hB hk n (by omega) hh
          rw [pfF] at hp
          rcases pair_facts hB hRC hk with ⟨e, _⟩ | ⟨p, e, hpn, hne, _⟩
          · rw [e] at e4 hp
            rw [if_pos (by decide)] at hp
            repeat (first | with_reducible refine wT ?_ | with_reducible refine wF ?_ | with_reducible refine wbd (by assumption) ?_ | (refine wbd (e4 _) ?_) | (refine wst o2 hkz fun h3 o3 k3 l3 a e5 => ?_) | with_reducible refine wadd1 (by omega) ?_ | with_reducible refine wlssT (by omega) ?_ | with_reducible refine wgtrF (by omega) ?_)
            exact next _ _ (Nat.lt_succ_self m) ⟨k + 1, D', _, h3, rfl, by omega, hD, by simpa using hz, hp, o3, k2.trans k3⟩
          · rw [e] at e4 hp
            rw [if_neg (by omega)] at hp
            have hpz : p < zs.length := by omega
            by_cases hlt : k < p
            · rw [if_pos (by omega)] at hp
              by_cases hod : D' % 2 = 1
              · rw [if_pos hod] at hp
                repeat (first | with_reducible refine wT ?_ | with_reducible refine wF ?_ | with_reducible refine wg1 rfl ?_ | with_reducible refine wpT ?_ | with_reducible refine wpv ?_ | with_reducible refine wsm ?_ | with_reducible refine wbd (by assumption) ?_ | (refine wbd (e4 _) ?_) | (refine wst o2 hkz fun h3 o3 k3 l3 a e5 => ?_) | with_reducible refine wrem2 ?_ | with_reducible refine wlssT (by omega) ?_ | with_reducible refine wlssF (by omega) ?_ | with_reducible refine wgtrT (by omega) ?_ | with_reducible refine weqlT (by omega) ?_ | dsimp only)
                refine wst o3 (by rw [List.length_set]; exact hpz) fun h4 o4 k4 l4 a2 e6 => ?_
                repeat (first | with_reducible refine wT ?_ | (refine wquo2 (by omega) ?_) | with_reducible refine wadd1 (by omega) ?_ | with_reducible refine wgtrT (by omega) ?_)
                exact next _ _ (Nat.lt_succ_self m) ⟨k + 1, D' / 2, _, h4, rfl, by omega, by omega, by simpa using hz, hp, o4, k2.trans (k3.trans k4)⟩
              · rw [if_neg hod] at hp
                repeat (first | with_reducible refine wT ?_ | with_reducible refine wF ?_ | with_reducible refine wg1 rfl ?_ | with_reducible refine wpT ?_ | with_reducible refine wpv ?_ | with_reducible refine wsm ?_ | with_reducible refine wbd (by assumption) ?_ | (refine wbd (e4 _) ?_) | (refine wst o2 hkz fun h3 o3 k3 l3 a e5 => ?_) | with_reducible refine wrem2 ?_ | with_reducible refine wlssT (by omega) ?_ | with_reducible refine wlssF (by omega) ?_ | with_reducible refine wgtrT (by omega) ?_ | with_reducible refine weqlF (by omega) ?_ | dsimp only)
                refine wst o3 (by rw [List.length_set]; exact hpz) fun h4 o4 k4 l4 a2 e6 => ?_
                repeat (first | with_reducible refine wT ?_ | (refine wquo2 (by omega) ?_) | with_reducible refine wadd1 (by omega) ?_ | with_reducible refine wgtrT (by omega) ?_)
                exact next _ _ (Nat.lt_succ_self m) ⟨k + 1, D' / 2, _, h4, rfl, by omega, by omega, by simpa using hz, hp, o4, k2.trans (k3.trans k4)⟩
            · rw [if_neg (by omega)] at hp
              repeat (first | with_reducible refine wT ?_ | with_reducible refine wF ?_ | with_reducible refine wg0 rfl ?_ | with_reducible refine wpF ?_ | with_reducible refine wsm ?_ | with_reducible refine wbd (by assumption) ?_ | (refine wbd (e4 _) ?_) | with_reducible refine wadd1 (by omega) ?_ | with_reducible refine wlssT (by omega) ?_ | with_reducible refine wlssF (by omega) ?_ | with_reducible refine wgtrF (by omega) ?_ | dsimp only)
              exact next _ _ (Nat.lt_succ_self m) ⟨k + 1, D', zs, h2, rfl, by omega, hD, hz, hp, o2, k2⟩
    · rw [decide_eq_false (show ¬ (R : Int) < (C : Int) by omega)]
      repeat (first | with_reducible refine wT ?_ | with_reducible refine wg1 rfl ?_ | with_reducible refine wg0 rfl ?_ | with_reducible refine wpT ?_ | with_reducible refine wpF ?_ | with_reducible refine wnT ?_ | with_reducible refine wpv ?_ | with_reducible refine wsm ?_ | with_reducible refine wbd (by assumption) ?_ | (refine wempty fun q h1 o1 k1 => ?_) | with_reducible refine wleqT (by omega) ?_ | with_reducible refine wresO (by assumption) ?_ | dsimp only)
      exact W.ret ⟨o1, k1⟩

theorem specOpenings_calls (N : Nat) (hN : 19 ≤ N) (hlf : 1000 < lf) (h : PHeap) (r c pl : Int) :
    ∃ q h', CL g lf N fn_spec_Openings [.int .i64 r, .int .i64 c, .int .i64 pl] h = some (q, h') ∧ OwnSl h.length h' q (openL r c pl) ∧ Keep h.length h h' := by
  obtain ⟨n, rfl⟩ : ∃ n, N = n + 1 := ⟨N - 1, by omega⟩
  have e1 := boardOk_spec g lf n (by omega) h r c
  have hin1 : CL g lf n fn_spec_l1In [.int .i64 pl, .int .i64 1, .int .i64 2] h = some (.bool (playerB pl), h) := l1In_N g lf n (by omega) h pl 1 2
  suffices this : W (CL g lf (n + 1) fn_spec_Openings [.int .i64 r, .int .i64 c, .int .i64 pl] h) fun q h' => OwnSl h.length h' q (openL r c pl) ∧ Keep h.length h h' by
    obtain ⟨q, h', e, o, k⟩ := this
    exact ⟨q, h', e, o, k⟩
  unfold openL
  rw [spec_Openings.call_eq]
  unfold spec_Openings.main
  simp only [env_C, env_pick, env_buildSlice, env_bin, env_un, env_make]
  cases hb : boardB r c with
  | false =>
    rw [hb] at e1
    repeat (first | with_reducible refine wT ?_ | with_reducible refine wg0 rfl ?_ | with_reducible refine wpT ?_ | with_reducible refine wnF ?_ | with_reducible refine wsm ?_ | with_reducible refine wbd (by assumption) ?_ | (refine wempty fun q h1 o1 k1 => ?_) | with_reducible refine wresO (by assumption) ?_ | dsimp only)
    exact W.ret ⟨o1, k1⟩
  | true =>
    rw [hb] at e1
    obtain ⟨R, C, rfl, rfl, hB⟩ := boardB_of hb
    obtain ⟨h1, h2, h3, h4, h9⟩ := id hB
    cases hpl : playerB pl with
    | false =>
      rw [hpl] at hin1
      repeat (first | with_reducible refine wT ?_ | with_reducible refine wg1 rfl ?_ | with_reducible refine wpF ?_ | with_reducible refine wnT ?_ | with_reducible refine wnF ?_ | with_reducible refine wpv ?_ | with_reducible refine wsm ?_ | with_reducible refine wbd (by assumption) ?_ | (refine wempty fun q h1 o1 k1 => ?_) | with_reducible refine wresO (by assumption) ?_ | dsimp only)
      exact W.ret ⟨o1, k1⟩
    | true =>
      rw [hpl] at hin1
      repeat (first | with_reducible refine wF ?_ | with_reducible refine wg1 rfl ?_ | with_reducible refine wpF ?_ | with_reducible refine wnT ?_ | with_reducible refine wpv ?_ | with_reducible refine wsm ?_ | with_reducible refine wbd (by assumption) ?_ | (refine wmake (by omega) fun q h1 o1 k1 => ?_) | with_reducible refine wmulN (by omega) ?_ | dsimp only)
      obtain ⟨q2, h2, e2, o2, k2⟩ := specWinningCells_calls g lf n (by omega) (R : Int) (C : Int) pl o1.int (by simp; omega) (by simp; omega) hlf
      repeat (first | with_reducible refine wbd (by assumption) ?_ | with_reducible refine wresO (by assumption) ?_ | dsimp only)
      exact W.ret ⟨o2.mono k1.1, k1.trans (k2.mono k1.1)⟩

/-! ### fillings -/
theorem listN_cells (S : Nat) : listN S = (cellsN S).map fun k : Nat => (k : Int) := listN_filter S
theorem cells_len9 (S : Nat) : (cellsN S).length ≤ 9 := by
  unfold cellsN; have := List.length_filter_le S.testBit (List.range 9); rw [List.length_range] at this; exact this
theorem fillN_lt : ∀ {l : List Nat} {m : Nat}, (∀ j ∈ l, j < 9) → fillN l m < 2 ^ 9
  | [], _, _ => by rw [fillN]; decide
  | c :: l, m, h => by
    have hc := h c (List.mem_cons_self ..)
    have ih := fillN_lt (l := l) (m := m / 2) fun j hj => h j (List.mem_cons_of_mem _ hj)
    rw [fillN]
    refine Nat.or_lt_two_pow ?_ ih
    have := Nat.mod_two_eq_zero_or_one m
    rcases this with e | e
    · rw [e, Nat.zero_shiftLeft]; decide
    · rw [e]; exact shl_lt hc

theorem range_count_succ (p : Nat → Bool) (k : Nat) : (List.range (k + 1)).countP p = (List.range k).countP p + if p k = true then 1 else 0 := by
  rw [List.range_succ, List.countP_append, List.countP_singleton]

/-! ### what one cell decides -/
theorem piv_ops {R C P K : Nat} (hB : BoardOf R C) (hP : P = 1 ∨ P = 2) {pm : PV} {h : PHeap} (om : IntSl .i64 h pm (ints (masksN R C))) {s : Nat} (hs : s < 2 ^ 9) (hK : K < 9) (hlf : 1000 < lf) (N : Nat) (hN : 2 ≤ N) :
    CL g lf N fn_spec_l2Joins [.int .i64 (R : Int), .int .i64 (C : Int), pm, .int .i64 ((s ||| 1 <<< K : Nat) : Int), .int .i64 (P : Int)] h = some (.bool (joinsN R C P (s ||| 1 <<< K)), h) ∧
    CL g lf N fn_spec_l2Joins [.int .i64 (R : Int), .int .i64 (C : Int), pm, .int .i64 (s : Int), .int .i64 (P : Int)] h = some (.bool (joinsN R C P s), h) :=
  ⟨l2Joins_calls g lf hB hP om (with_lt hs hK) N hN hlf, l2Joins_calls g lf hB hP om hs N hN hlf⟩

def deadFrom (r c : Int) (xs : List Int) (k m : Nat) : List Int := ((List.range' k m).filter (deadB r c xs)).map fun k : Nat => (k : Int)
theorem deadFrom_all (r c : Int) (xs : List Int) : deadFrom r c xs 0 xs.length = deadL r c xs := by unfold deadFrom deadL; rw [List.range_eq_range']
theorem deadFrom_succ (r c : Int) (xs : List Int) (k m : Nat) : deadFrom r c xs k (m + 1) = if deadB r c xs k = true then (k : Int) :: deadFrom r c xs (k + 1) m else deadFrom r c xs (k + 1) m := by
  unfold deadFrom
  rw [List.range'_succ, List.filter_cons]
  split <;> rfl

end Go.Proofs.YtlfjjjhjjmikfaaDoor

/- The laws of chapter 4 over what the program's functions are asked to compute. -/
namespace Go.Proofs.YtlfjjjhjjmikfaaDoor
open Go Go.Ip G

/-- What is asked of the program's functions of chapter 4. -/
def OpeningsOk (g : Nat → PV) (lf : Nat) : Prop := ∀ (N : Nat), 41 ≤ N → ∀ (r c pl : Int) {h : PHeap}, TabOk g h →
  ∃ q h', CL g lf N fn_impl_Openings [.int .i64 r, .int .i64 c, .int .i64 pl] h = some (q, h') ∧ OwnSl h.length h' q (openL r c pl) ∧ Keep h.length h h'
def PairCellOk (g : Nat → PV) (lf : Nat) : Prop := ∀ (N : Nat), 40 ≤ N → ∀ (r c k : Int) {h : PHeap}, TabOk g h →
  ∃ h', CL g lf N fn_impl_PairCell [.int .i64 r, .int .i64 c, .int .i64 k] h = some (.int .i64 (pairL r c k), h') ∧ Keep h.length h h'
def PairFilledOk (g : Nat → PV) (lf : Nat) : Prop := ∀ (N : Nat), 40 ≤ N → ∀ (r c ch : Int) {h : PHeap}, ch < 9223372036854775808 → TabOk g h →
  ∃ q h', CL g lf N fn_impl_PairFilled [.int .i64 r, .int .i64 c, .int .i64 ch] h = some (q, h') ∧ OwnSl h.length h' q (pairFillL r c ch) ∧ Keep h.length h h'

theorem pairFillN_length (R C ch : Nat) : (pairFillN R C ch).length = R * C := by unfold pairFillN; rw [pfF_length]; simp
theorem pairFillL_length {r c ch : Int} : (pairFillL r c ch).length ≤ 9 := by
  unfold pairFillL
  split
  · rename_i h
    rw [Bool.and_eq_true, Bool.and_eq_true] at h
    obtain ⟨R, C, rfl, rfl, hB⟩ := boardB_of h.1.1
    show (pairFillN R C _).length ≤ 9
    rw [pairFillN_length]; exact hB.2.2.2.2
  · exact Nat.zero_le _
theorem openL_length {r c pl : Int} : (openL r c pl).length ≤ 9 := by
  unfold openL
  split
  · rename_i h
    rw [Bool.and_eq_true] at h
    obtain ⟨R, C, rfl, rfl, hB⟩ := boardB_of h.1
    have := winCellsL_length (R : Int) (C : Int) (freeL R C) pl
    have e : (freeL R C).length = R * C := by simp [freeL]
    have := hB.2.2.2.2
    show (winCellsL (R : Int) (C : Int) (freeL R C) pl).length ≤ 9
    omega
  · exact Nat.zero_le _
/-- What is told of a filling of pairs. -/
theorem fill_facts {R C : Nat} (hB : BoardOf R C) (h : R < C) (ch : Nat) : posB (R : Int) (C : Int) (pairFillN R C ch) = true ∧ (pairFillN R C ch).count 0 = 0 ∧ joinsL (R : Int) (C : Int) (pairFillN R C ch) 1 = true ∧ joinsL (R : Int) (C : Int) (pairFillN R C ch) 2 = false := by
  have hf := fill_ok hB h ch
  unfold fillOkB at hf
  simp only [Bool.and_eq_true, decide_eq_true_eq, List.all_eq_true, Bool.or_eq_true] at hf
  obtain ⟨⟨hlen, hall⟩, hj⟩ := hf
  have hfp := free_pos hB
  have hb : posB (R : Int) (C : Int) (pairFillN R C ch) = true := by
    unfold posB at hfp ⊢
    simp only [Bool.and_eq_true, decide_eq_true_eq] at hfp ⊢
    refine ⟨⟨hfp.1.1, by rw [hlen, Int.natCast_mul]⟩, ?_⟩
    rw [List.all_eq_true]
    intro x hx
    rcases hall x hx with rfl | rfl <;> rfl
  have hS := sides_pos hb
  have h1 : joinsL (R : Int) (C : Int) (pairFillN R C ch) 1 = true := by rw [joins_one hb]; exact hj
  refine ⟨hb, ?_, h1, ?_⟩
  · rw [List.count_eq_zero]
    intro hx
    rcases hall 0 hx with e | e <;> cases e
  · rw [joins_two hb]
    exact (pos_sets hS).both (board_of_sides hS) hj

variable (g : Nat → PV) (lf n : Nat)

/-! ### the exact laws -/
/-- Of two functions that make one list of numbers. -/
theorem exact_chain4 {L : List Int} {h : PHeap} (N : Nat) (hN : 1 ≤ N) (fS fI : PHeap → Res)
    (hS : ∀ hh, Keep h.length h hh → ∃ w h', fS hh = some (w, h') ∧ OwnSl hh.length h' w L ∧ Keep hh.length hh h')
    (hI : ∀ hh, Keep h.length h hh → ∃ w h', fI hh = some (w, h') ∧ OwnSl hh.length h' w L ∧ Keep hh.length hh h')
    (hL : L.length ≤ 1048576) (hf : 1048576 < lf) :
    ∃ w h2 g0 h4 h7 g1 h9, fS h = some (w, h2) ∧ fI h2 = some (g0, h4) ∧ CL g lf N fn_laws_eqIntS [g0, w] h4 = some (.bool true, h4) ∧
      CL g lf N fn_laws_markIntS [g0, .int .i64 1] h4 = some (.int .i64 (1 + L.length), h7) ∧ CL g lf N fn_laws_heldIntS [g0, .int .i64 1] h7 = some (.int .i64 (1 + L.length), h7) ∧
      fI h7 = some (g1, h9) ∧ CL g lf N fn_laws_eqIntS [g1, w] h9 = some (.bool true, h9) ∧ CL g lf N fn_laws_heldIntS [g0, .int .i64 1] h9 = some (.int .i64 (1 + L.length), h9) := by
  obtain ⟨n, rfl⟩ : ∃ n, N = n + 1 := ⟨N - 1, by omega⟩
  obtain ⟨w, h2, e2, ow, k2⟩ := hS h (Keep.refl _ _)
  obtain ⟨g0, h4, e4, og, k4⟩ := hI h2 k2
  have K4 : Keep h.length h h4 := k2.trans (k4.mono k2.1)
  have w2 := ow.b
  have w4 := w2.keep k4
  have g4 := og.b
  have s4 := eqIntS_calls g lf n og.int w4.int (by omega) (by omega)
  obtain ⟨h7, e7, g7, t7⟩ := markIntS_calls g lf (n + 1) (by omega) g4 (by omega) (by omega)
  have K7 : Keep h.length h h7 := K4.trans (t7.keep.mono k2.1)
  have w7 := w4.only t7 (.inl (Nat.le_refl _))
  have s7 := heldIntS_calls g lf (n + 1) (by omega) g7.int (by omega) (by omega)
  obtain ⟨g1, h9, e9, o9, k9⟩ := hI h7 K7
  have len7 : h4.length ≤ h7.length := by rw [t7.1]; exact Nat.le_refl _
  have w9 := w7.keep (k9.mono (Nat.le_trans k4.1 len7))
  have g9 := g7.keep (k9.mono len7)
  have s9 := eqIntS_calls g lf n o9.int w9.int (by omega) (by omega)
  have s10 := heldIntS_calls g lf (n + 1) (by omega) g9.int (by omega) (by omega)
  simp only [decide_true] at s4 s9
  exact ⟨w, h2, g0, h4, h7, g1, h9, e2, e4, s4, e7, s7, e9, s9, s10⟩

theorem exactOpenings_calls (hok : OpeningsOk g lf) {h : PHeap} (N : Nat) (hN : 42 ≤ N) (r c x : Int) (ht : TabOk g h) (hf : 1048576 < lf) :
    ∃ h', CL g lf N fn_laws_FnExactOpenings [.int .i64 r, .int .i64 c, .int .i64 x] h = some (.bool true, h') := by
  obtain ⟨n, rfl⟩ : ∃ n, N = n + 1 := ⟨N - 1, by omega⟩
  apply W.yes
  have hL : (openL r c x).length ≤ 9 := openL_length
  obtain ⟨w, h2, g0, h4, h7, g1, h9, e2, e4, s4, e7, s7, e9, s9, s10⟩ := exact_chain4 g lf n (by omega)
    (fun h => CL g lf n fn_spec_Openings [.int .i64 r, .int .i64 c, .int .i64 x] h) (fun h => CL g lf n fn_impl_Openings [.int .i64 r, .int .i64 c, .int .i64 x] h)
    (fun hh _ => specOpenings_calls g lf n (by omega) (by omega) hh r c x) (fun hh hk => hok n (by omega) r c x (ht.keep hk)) (by omega) hf
  rw [laws_FnExactOpenings.call_eq]
  unfold laws_FnExactOpenings.main
  simp only [env_C, env_bin, env_un]
  repeat (first | with_reducible refine wF ?_ | with_reducible refine wnT ?_ | with_reducible refine wrB ?_ | with_reducible refine wbd (by assumption) ?_ | with_reducible refine wlssF (by omega) ?_ | with_reducible refine wneqF (by omega) ?_ | dsimp only)
  exact W.ret rfl

theorem fnPairFilled_calls (hPF : PairFilledOk g lf) (hJ : JoinsOk g lf) (hW : WinnerOk g lf) {p : PV} {ys : List Int} {h : PHeap} (N : Nat) (hN : 45 ≤ N) (ha : Arg h p ys) (hlf : 1000 < lf) (ht : TabOk g h) :
    ∃ h', CL g lf N fn_laws_FnPairFilled [p] h = some (.bool true, h') := by
  obtain ⟨n, rfl⟩ : ∃ n, N = n + 1 := ⟨N - 1, by omega⟩
  apply W.yes
  rw [laws_FnPairFilled.call_eq]
  unfold laws_FnPairFilled.main
  simp only [env_C, env_pick, env_bin, env_un, env_make, env_extract, env_len]
  have hlenp : lenP Tryd.prog 22 p = some (.int .i64 ys.length) := (ha.1 h (Keep.refl _ _)).len tyB
  by_cases hbig : (1048576 : Int) < (ys.length : Int)
  · repeat (first | with_reducible refine wT ?_ | with_reducible refine wrB ?_ | with_reducible refine wbd (by assumption) ?_ | with_reducible refine wgtrT (by omega) ?_)
    exact W.ret rfl
  obtain ⟨r, c, k, h1, e1, k1, hr1, hr2, hc1, hc2, hk1⟩ := drawPairFilled_calls g lf n (by omega) ha
  have htF := tabF ht k1
  have hb1 : h1.length ≤ h1.length := Nat.le_refl _
  have k0 : Keep h1.length h1 h1 := Keep.refl _ _
  have hal : ∀ h2, CL g lf n fn_laws_alive [] h2 = some (.bool true, h2) := fun h2 => alive_calls g lf n (by omega) h2
  have hbo := trivial
  obtain ⟨q2, h2, e2, o2, k2⟩ := hPF n (by omega) r c k (by omega) (htF _ k0)
  obtain ⟨q3, h3, e3, o3, k3⟩ := specPairFilled_calls g lf n (by omega) hlf h2 r c k (by omega)
  have k13 := k2.trans (k3.mono k2.1)
  have hpl : (pairFillL r c k).length ≤ 9 := pairFillL_length
  have e4 := sameInts_N g lf n (by omega) (o2.keep k3).int o3.int (by omega) (by omega)
  rw [decide_eq_true rfl] at e4
  have o2' := o2.keep k3
  have hlen := o2'.int.len'
  by_cases hv : (boardB r c && decide (r < c) && decide (0 ≤ k)) = true
  · have hpe : pairFillL r c k = pairFillN r.toNat c.toNat k.toNat := by unfold pairFillL; rw [if_pos hv]
    rw [Bool.and_eq_true, Bool.and_eq_true, decide_eq_true_eq, decide_eq_true_eq] at hv
    obtain ⟨⟨hb, hrc⟩, hk0⟩ := hv
    obtain ⟨R, C, rfl, rfl, hB⟩ := boardB_of hb
    have hRC : R < C := by omega
    obtain ⟨b1, b2, b3, b4, b9⟩ := id hB
    obtain ⟨D, rfl⟩ := Int.eq_ofNat_of_zero_le hk0
    have hpe' : pairFillL (R : Int) (C : Int) (D : Int) = pairFillN R C D := hpe
    rw [hpe'] at o2' hlen hpl
    rw [pairFillN_length] at hlen hpl
    obtain ⟨f1, f2, f3, f4⟩ := fill_facts hB hRC D
    have hmul : 1 ≤ R * C := Nat.mul_pos b1 b3
    have hpl2 : (pairFillN R C D).length = R * C := pairFillN_length R C D
    have hfl : (freeL R C).length = R * C := by simp [freeL]
    have hW1 : ∀ t : Nat, (t = 1 ∨ t = 2) → ∀ hh (q : PV), TabOk g hh → IntSl .i64 hh q (freeL R C) → ∃ h', CL g lf n fn_impl_WinnerOf [.int .i64 (R : Int), .int .i64 (C : Int), q, .int .i64 (t : Int)] hh = some (.int .i64 1, h') ∧ Keep hh.length hh h' := fun t ht2 hh q t2 i2 => by
      have := hW n (by omega) (R : Int) (C : Int) (t : Int) t2 i2 (by omega) (by omega)
      have hv : winL (R : Int) (C : Int) (freeL R C) (t : Int) = 1 := by
        rw [free_winL hB ht2]
        rcases ht2 with rfl | rfl
        · rw [(wide_wins hB hRC).1]; rfl
        · rw [(wide_wins hB hRC).2]; rfl
      rw [hv] at this; exact this
    repeat (first | with_reducible refine wF ?_ | with_reducible refine wnT ?_ | with_reducible refine wx0 ?_ | with_reducible refine wx1 ?_ | with_reducible refine wx2 ?_ | with_reducible refine wbd (by assumption) ?_ | (with_reducible refine wmake (m := R * C) (by omega) fun q5 h5 o5 k5 => ?_) | with_reducible refine wmulN (by omega) ?_ | with_reducible refine wgtrF (by omega) ?_ | with_reducible refine weqlF (by omega) ?_ | dsimp only)
    have k15 : Keep h1.length h1 h5 := k13.trans (k5.mono k13.1)
    have i5 := (o2'.keep k5).int
    have e6 := positionOk_N g lf n (by omega) (R : Int) (C : Int) i5 (by omega) (by omega)
    rw [f1] at e6
    obtain ⟨q7, h7, e7, o7, k7⟩ := cellsOf_calls g lf n (by omega) (R : Int) (C : Int) 0 i5 (by omega) (by omega)
    have hc0 := cells_count f1 0
    rw [f2] at hc0
    have hlen7 := o7.int.len'
    rw [hc0] at hlen7
    have k17 := k15.trans (k7.mono k15.1)
    obtain ⟨h8, e8, k8⟩ := hJ n (by omega) (R : Int) (C : Int) 1 (htF _ k17) (i5.keep k7) (by omega) (by omega)
    rw [f3] at e8
    have k18 := k17.trans (k8.mono k17.1)
    obtain ⟨h9, e9, k9⟩ := hJ n (by omega) (R : Int) (C : Int) 2 (htF _ k18) ((i5.keep k7).keep k8) (by omega) (by omega)
    rw [f4] at e9
    have k19 := k18.trans (k9.mono k18.1)
    have o9 := ((o5.keep k7).keep k8).keep k9
    have hlen9 := o9.int.len'
    have hlr : (List.replicate (R * C) (0 : Int)).length = R * C := by simp
    rw [hlr] at hlen9
    obtain ⟨hA, eA, kA⟩ := hW1 1 (.inl rfl) h9 q5 (htF _ k19) o9.int
    have k1A := k19.trans (kA.mono k19.1)
    obtain ⟨hB', eB, kB⟩ := hW1 2 (.inr rfl) hA q5 (htF _ k1A) (o9.keep kA).int
    by_cases h6 : 6 < R * C
    · repeat (first | with_reducible refine wg1 rfl ?_ | with_reducible refine wg0 rfl ?_ | with_reducible refine wgu ?_ | with_reducible refine wpT ?_ | with_reducible refine wnF ?_ | with_reducible refine wpv ?_ | with_reducible refine wsm ?_ | with_reducible refine wrB ?_ | with_reducible refine wbd (by assumption) ?_ | (with_reducible refine weqlT rfl ?_) | with_reducible refine wgtrT (by omega) ?_ | dsimp only)
      exact W.ret rfl
    · repeat (first | with_reducible refine wg1 rfl ?_ | with_reducible refine wpT ?_ | with_reducible refine wpF ?_ | with_reducible refine wnF ?_ | with_reducible refine wpv ?_ | with_reducible refine wsm ?_ | with_reducible refine wrB ?_ | with_reducible refine wbd (by assumption) ?_ | (with_reducible refine weqlT rfl ?_) | (with_reducible refine wbd eA ?_) | (with_reducible refine wbd eB ?_) | with_reducible refine wgtrF (by omega) ?_ | dsimp only)
      exact W.ret rfl
  · have hpe : pairFillL r c k = [] := by unfold pairFillL; rw [if_neg hv]
    rw [hpe] at hlen
    repeat (first | with_reducible refine wT ?_ | with_reducible refine wF ?_ | with_reducible refine wnT ?_ | with_reducible refine wrB ?_ | with_reducible refine wx0 ?_ | with_reducible refine wx1 ?_ | with_reducible refine wx2 ?_ | with_reducible refine wbd (by assumption) ?_ | (with_reducible refine wbd (hal _) ?_) | (with_reducible refine weqlT rfl ?_) | with_reducible refine wgtrF (by omega) ?_ | dsimp only)
    exact W.ret rfl

theorem fnWideWins_calls (hPC : PairCellOk g lf) (hW : WinnerOk g lf) (hO : OpeningsOk g lf) {p : PV} {ys : List Int} {h : PHeap} (N : Nat) (hN : 45 ≤ N) (ha : Arg h p ys) (hlf : 1000 < lf) (ht : TabOk g h) :
    ∃ h', CL g lf N fn_laws_FnWideWins [p] h = some (.bool true, h') := by
  obtain ⟨n, rfl⟩ : ∃ n, N = n + 1 := ⟨N - 1, by omega⟩
  apply W.yes
  rw [laws_FnWideWins.call_eq]
  unfold laws_FnWideWins.main
  simp only [env_C, env_pick, env_bin, env_un, env_make, env_extract, env_len]
  have hlenp : lenP Tryd.prog 22 p = some (.int .i64 ys.length) := (ha.1 h (Keep.refl _ _)).len tyB
  by_cases hbig : (1048576 : Int) < (ys.length : Int)
  · repeat (first | with_reducible refine wT ?_ | with_reducible refine wrB ?_ | with_reducible refine wbd (by assumption) ?_ | with_reducible refine wgtrT (by omega) ?_)
    exact W.ret rfl
  obtain ⟨r, c, k, h1, e1, k1, hr1, hr2, hc1, hc2, hk0, hk1⟩ := drawPairCell_calls g lf n (by omega) ha
  have htF := tabF ht k1
  have hb1 : h1.length ≤ h1.length := Nat.le_refl _
  have k0 : Keep h1.length h1 h1 := Keep.refl _ _
  have hal : ∀ h2, CL g lf n fn_laws_alive [] h2 = some (.bool true, h2) := fun h2 => alive_calls g lf n (by omega) h2
  have hbo : ∀ h2, CL g lf n fn_spec_BoardOk [.int .i64 r, .int .i64 c] h2 = some (.bool (boardB r c), h2) := fun h2 => boardOk_spec g lf n (by omega) h2 r c
  have hI : ∀ h2, Keep h1.length h1 h2 → ∃ h', CL g lf n fn_impl_PairCell [.int .i64 r, .int .i64 c, .int .i64 0] h2 = some (.int .i64 (pairL r c 0), h') ∧ Keep h2.length h2 h' := fun h2 k2 => hPC n (by omega) r c 0 (htF _ k2)
  cases hb : boardB r c with
  | false =>
    have hp0 : pairL r c 0 = -1 := by unfold pairL; rw [hb]; rfl
    rw [hp0] at hI
    rw [hb] at hbo
    repeat (first | with_reducible refine wT ?_ | with_reducible refine wF ?_ | with_reducible refine wg1 rfl ?_ | with_reducible refine wg0 rfl ?_ | with_reducible refine wpT ?_ | with_reducible refine wnF ?_ | with_reducible refine wsm ?_ | with_reducible refine wrB ?_ | with_reducible refine wx0 ?_ | with_reducible refine wx1 ?_ | with_reducible refine wx2 ?_ | with_reducible refine wbd (by assumption) ?_ | (with_reducible refine wbd (hbo _) ?_) | (with_reducible refine wbd (hal _) ?_) | (with_reducible refine wcv (hI _ (by assumption)) (by assumption) hb1 fun _ _ => ?_) | with_reducible refine wgtrF (by omega) ?_ | with_reducible refine weqlT (by omega) ?_ | dsimp only)
    exact W.ret rfl
  | true =>
  rw [hb] at hbo
  obtain ⟨R, C, rfl, rfl, hB⟩ := boardB_of hb
  obtain ⟨b1, b2, b3, b4, b9⟩ := id hB
  by_cases hRC : R < C
  · have hmul : 1 ≤ R * C := Nat.mul_pos b1 b3
    have hfl : (freeL R C).length = R * C := by simp [freeL]
    have hW1 : ∀ t : Nat, (t = 1 ∨ t = 2) → ∀ hh (q : PV), TabOk g hh → IntSl .i64 hh q (freeL R C) → ∃ h', CL g lf n fn_impl_WinnerOf [.int .i64 (R : Int), .int .i64 (C : Int), q, .int .i64 (t : Int)] hh = some (.int .i64 1, h') ∧ Keep hh.length hh h' := fun t ht2 hh q t2 i2 => by
      have := hW n (by omega) (R : Int) (C : Int) (t : Int) t2 i2 (by omega) (by omega)
      have hv : winL (R : Int) (C : Int) (freeL R C) (t : Int) = 1 := by
        rw [free_winL hB ht2]
        rcases ht2 with rfl | rfl
        · rw [(wide_wins hB hRC).1]; rfl
        · rw [(wide_wins hB hRC).2]; rfl
      rw [hv] at this; exact this
    repeat (first | with_reducible refine wF ?_ | with_reducible refine wg1 rfl ?_ | with_reducible refine wpF ?_ | with_reducible refine wnT ?_ | with_reducible refine wpv ?_ | with_reducible refine wsm ?_ | with_reducible refine wx0 ?_ | with_reducible refine wx1 ?_ | with_reducible refine wx2 ?_ | with_reducible refine wbd (by assumption) ?_ | (with_reducible refine wbd (hbo _) ?_) | (with_reducible refine wbd (hal _) ?_) | (with_reducible refine wmake (m := R * C) (by omega) fun q5 h5 o5 k5 => ?_) | with_reducible refine wmulN (by omega) ?_ | with_reducible refine wleqF (by omega) ?_ | with_reducible refine wgtrF (by omega) ?_ | dsimp only)
    obtain ⟨hA, eA, kA⟩ := hW1 1 (.inl rfl) h5 q5 (htF _ k5) o5.int
    have k1A := k5.trans (kA.mono k5.1)
    obtain ⟨hB', eB, kB⟩ := hW1 2 (.inr rfl) hA q5 (htF _ k1A) (o5.keep kA).int
    have k1B := k1A.trans (kB.mono k1A.1)
    obtain ⟨q7, h7, e7, o7, k7⟩ := hO n (by omega) (R : Int) (C : Int) 2 (htF _ k1B)
    have hj := free_joins hB
    have hs := winCells_some (free_pos hB) (sides_free hB) (P := 2) (.inr rfl) hj.1 hj.2
    have hw2 : winL (R : Int) (C : Int) (freeL R C) ((2 : Nat) : Int) = 1 := by rw [free_winL hB (.inr rfl), (wide_wins hB hRC).2]; rfl
    have hz : (openL (R : Int) (C : Int) 2).length = 0 := by
      unfold openL
      rw [hb]
      show (winCellsL (R : Int) (C : Int) (freeL R C) 2).length = 0
      have hn : ¬ 0 < (winCellsL (R : Int) (C : Int) (freeL R C) ((2 : Nat) : Int)).length := fun hh => by
        have := hs.1 hh
        rw [hw2] at this; exact absurd this (by decide)
      have e : ((2 : Nat) : Int) = 2 := rfl
      rw [e] at hn
      omega
    have hlen7 := o7.int.len'
    rw [hz] at hlen7
    repeat (first | with_reducible refine wg1 rfl ?_ | with_reducible refine wpT ?_ | with_reducible refine wpv ?_ | with_reducible refine wsm ?_ | with_reducible refine wrB ?_ | with_reducible refine wbd (by assumption) ?_ | (with_reducible refine weqlT rfl ?_) | (with_reducible refine wbd eA ?_) | (with_reducible refine wbd eB ?_) | dsimp only)
    exact W.ret rfl
  · have hp0 : pairL (R : Int) (C : Int) 0 = -1 := by
      unfold pairL; rw [decide_eq_false (show ¬ (R : Int) < (C : Int) by omega)]; simp
    rw [hp0] at hI
    repeat (first | with_reducible refine wT ?_ | with_reducible refine wF ?_ | with_reducible refine wg1 rfl ?_ | with_reducible refine wpT ?_ | with_reducible refine wpF ?_ | with_reducible refine wnT ?_ | with_reducible refine wpv ?_ | with_reducible refine wsm ?_ | with_reducible refine wrB ?_ | with_reducible refine wx0 ?_ | with_reducible refine wx1 ?_ | with_reducible refine wx2 ?_ | with_reducible refine wbd (by assumption) ?_ | (with_reducible refine wbd (hbo _) ?_) | (with_reducible refine wbd (hal _) ?_) | (with_reducible refine wcv (hI _ (by assumption)) (by assumption) hb1 fun _ _ => ?_) | with_reducible refine wleqT (by omega) ?_ | with_reducible refine wgtrF (by omega) ?_ | with_reducible refine weqlT (by omega) ?_ | dsimp only)
    exact W.ret rfl

end Go.Proofs.YtlfjjjhjjmikfaaDoor

/- The law of chapter 4 on openings (promise 23). -/
namespace Go.Proofs.YtlfjjjhjjmikfaaDoor
open Go Go.Ip G

section
variable {Q : PV → PHeap → Prop}
/-- A guarded load that is held. -/
theorem wh1 {b u : Bool} {x y : Res} (hb : b = u) (hx : W x Q) : W ((wantV (.bool b) u).bind fun v => bif v then x else y) Q := by
  subst hb; simpa using hx
theorem wh0 {b u : Bool} {x y : Res} (hb : b = !u) (hy : W y Q) : W ((wantV (.bool b) u).bind fun v => bif v then x else y) Q := by
  subst hb; cases u <;> simpa using hy
end
theorem openL_eq {R C P : Nat} (hB : BoardOf R C) (hP : P = 1 ∨ P = 2) : openL (R : Int) (C : Int) (P : Int) = winCellsL (R : Int) (C : Int) (freeL R C) (P : Int) := by
  have hb : boardB (R : Int) (C : Int) = true := by have := free_pos hB; unfold posB at this; simp only [Bool.and_eq_true] at this; exact this.1.1
  unfold openL; rw [hb, playerB_of hP]; rfl
theorem openL_none {r c pl : Int} (h : boardB r c = false ∨ 2 < pl) : openL r c pl = [] := by
  unfold openL
  rw [if_neg]
  rcases h with h | h
  · rw [h]; simp
  · rw [playerB_none h]; simp

variable (g : Nat → PV) (lf n : Nat)

set_option maxHeartbeats 1000000 in
theorem fnOpenings_calls (hO : OpeningsOk g lf) {p : PV} {ys : List Int} {h : PHeap} (N : Nat) (hN : 45 ≤ N) (ha : Arg h p ys) (hlf : 1000 < lf) (ht : TabOk g h) :
    ∃ h', CL g lf N fn_laws_FnOpenings [p] h = some (.bool true, h') := by
  obtain ⟨n, rfl⟩ : ∃ n, N = n + 1 := ⟨N - 1, by omega⟩
  apply W.yes
  rw [laws_FnOpenings.call_eq]
  unfold laws_FnOpenings.main
  simp only [env_C, env_lf, env_pick, env_bin, env_un, env_extract, env_len]
  have hlenp : lenP Tryd.prog 22 p = some (.int .i64 ys.length) := (ha.1 h (Keep.refl _ _)).len tyB
  by_cases hbig : (1048576 : Int) < (ys.length : Int)
  · repeat (first | with_reducible refine wT ?_ | with_reducible refine wrB ?_ | with_reducible refine wbd (by assumption) ?_ | with_reducible refine wgtrT (by omega) ?_)
    exact W.ret rfl
  obtain ⟨r, c, pl, h1, e1, k1, hp1, hp2⟩ := drawOpenings_calls g lf n (by omega) ha (by omega)
  have htF := tabF ht k1
  have hb1 : h1.length ≤ h1.length := Nat.le_refl _
  have k0 : Keep h1.length h1 h1 := Keep.refl _ _
  have hal : ∀ h2, CL g lf n fn_laws_alive [] h2 = some (.bool true, h2) := fun h2 => alive_calls g lf n (by omega) h2
  have hbo : ∀ h2, CL g lf n fn_spec_BoardOk [.int .i64 r, .int .i64 c] h2 = some (.bool (boardB r c), h2) := fun h2 => boardOk_spec g lf n (by omega) h2 r c
  obtain ⟨q2, h2, e2, o2, k2⟩ := hO n (by omega) r c pl (htF _ k0)
  obtain ⟨q3, h3, e3, o3, k3⟩ := specOpenings_calls g lf n (by omega) hlf h2 r c pl
  have k13 := k2.trans (k3.mono k2.1)
  have hll : (openL r c pl).length ≤ 9 := openL_length
  have e4 := sameInts_N g lf n (by omega) (o2.keep k3).int o3.int (by omega) (by omega)
  rw [decide_eq_true rfl] at e4
  have o2' := o2.keep k3
  have empty : openL r c pl = [] → lenP Tryd.prog 25 q2 = some (.int .i64 0) := fun hh => by
    have := o2'.int.len'
    rw [hh] at this; exact this
  cases hb : boardB r c with
  | false =>
    have hlen := empty (openL_none (.inl hb))
    rw [hb] at hbo
    repeat (first | with_reducible refine wT ?_ | with_reducible refine wF ?_ | with_reducible refine wg1 rfl ?_ | with_reducible refine wg0 rfl ?_ | with_reducible refine wpT ?_ | with_reducible refine wnT ?_ | with_reducible refine wnF ?_ | with_reducible refine wsm ?_ | with_reducible refine wrB ?_ | with_reducible refine wx0 ?_ | with_reducible refine wx1 ?_ | with_reducible refine wx2 ?_ | with_reducible refine wbd (by assumption) ?_ | (with_reducible refine wbd (hbo _) ?_) | (with_reducible refine wbd (hal _) ?_) | (with_reducible refine weqlT rfl ?_) | with_reducible refine wgtrF (by omega) ?_ | dsimp only)
    exact W.ret rfl
  | true =>
  rw [hb] at hbo
  by_cases hpl : 2 < pl
  · have hlen := empty (openL_none (.inr hpl))
    repeat (first | with_reducible refine wT ?_ | with_reducible refine wF ?_ | with_reducible refine wg1 rfl ?_ | with_reducible refine wpT ?_ | with_reducible refine wpF ?_ | with_reducible refine wnT ?_ | with_reducible refine wpv ?_ | with_reducible refine wsm ?_ | with_reducible refine wrB ?_ | with_reducible refine wx0 ?_ | with_reducible refine wx1 ?_ | with_reducible refine wx2 ?_ | with_reducible refine wbd (by assumption) ?_ | (with_reducible refine wbd (hbo _) ?_) | (with_reducible refine wbd (hal _) ?_) | (with_reducible refine weqlT rfl ?_) | with_reducible refine wgtrT (by omega) ?_ | with_reducible refine wgtrF (by omega) ?_ | dsimp only)
    exact W.ret rfl
  obtain ⟨R, C, rfl, rfl, hB⟩ := boardB_of hb
  obtain ⟨b1, b2, b3, b4, b9⟩ := id hB
  obtain ⟨P, rfl⟩ := Int.eq_ofNat_of_zero_le (show 0 ≤ pl by omega)
  have hP : P = 1 ∨ P = 2 := by omega
  have hOt : 3 - P = 1 ∨ 3 - P = 2 := by omega
  have e3' : (3 : Int) - (P : Int) = ((3 - P : Nat) : Int) := by omega
  have hB' := board_swap hB
  obtain ⟨q4, h4, e4', o4, k4⟩ := hO n (by omega) (C : Int) (R : Int) (3 - (P : Int)) (htF _ k13)
  have hle := openL_eq hB hP
  have hlo := openL_eq hB' hOt
  rw [← e3'] at hlo
  have hcnt := open_count hB hP
  rw [← e3'] at hcnt
  rw [hle] at o2' hll
  rw [hlo] at o4
  have hll4 : (winCellsL (C : Int) (R : Int) (freeL C R) (3 - (P : Int))).length ≤ 9 := by omega
  have f2 : Fix h4.length h4 q2 (winCellsL (R : Int) (C : Int) (freeL R C) (P : Int)) := (o2'.keep k4).int.fix
  have f4 : Fix h4.length h4 q4 (winCellsL (C : Int) (R : Int) (freeL C R) (3 - (P : Int))) := o4.int.fix
  have hsq : R = C → 0 < (winCellsL (R : Int) (C : Int) (freeL R C) (P : Int)).length := fun e => by
    subst e
    have hj := free_joins hB
    refine (winCells_some (free_pos hB) (sides_free hB) hP hj.1 hj.2).2 ?_
    rw [free_winL hB hP, square_wins hB hP]
  have hmul : 1 ≤ R * C := Nat.mul_pos b1 b3
  repeat (first | with_reducible refine wF ?_ | with_reducible refine wg1 rfl ?_ | with_reducible refine wpF ?_ | with_reducible refine wnT ?_ | with_reducible refine wpv ?_ | with_reducible refine wsm ?_ | with_reducible refine wx0 ?_ | with_reducible refine wx1 ?_ | with_reducible refine wx2 ?_ | with_reducible refine wbd (by assumption) ?_ | (with_reducible refine wbd (hbo _) ?_) | with_reducible refine wgtrF (by omega) ?_ | with_reducible refine wsub (by omega) ?_ | dsimp only)
  refine loopW (fun m s => ∃ i : Nat, s = laws_FnOpenings.st0 (.int .i64 (R : Int)) (.int .i64 (C : Int)) q2 q4 (.int .i64 (i : Int)) h4 ∧ i + m = (winCellsL (R : Int) (C : Int) (freeL R C) (P : Int)).length) ?_ lf (winCellsL (R : Int) (C : Int) (freeL R C) (P : Int)).length _ (by omega) ⟨0, rfl, by omega⟩
  rintro n1 m s ⟨i, rfl, him⟩ next
  have hl2 := f2.now.len'
  have hl4 := f4.now.len'
  rw [hcnt] at hl4
  rw [laws_FnOpenings.body0_eq]
  unfold laws_FnOpenings.body0
  simp only [env_C, env_pick, env_load, env_bin, env_un, env_indexAddr, env_len]
  cases m with
  | zero =>
    by_cases hRC : R = C
    · have := hsq hRC
      repeat (first | with_reducible refine wF ?_ | with_reducible refine wg1 rfl ?_ | with_reducible refine wpT ?_ | with_reducible refine wpF ?_ | with_reducible refine wpv ?_ | with_reducible refine wsm ?_ | with_reducible refine wrB ?_ | with_reducible refine wbd (by assumption) ?_ | (with_reducible refine wbd (hal _) ?_) | with_reducible refine wlssF (by omega) ?_ | with_reducible refine wgtrT (by omega) ?_ | with_reducible refine weqlT (by omega) ?_ | with_reducible refine wneqF (by omega) ?_ | rw [kLoop_exit] | rw [laws_FnOpenings.after0_se0_3_4_6_7_8_51] | dsimp only | simp only [env_C, env_g, env_lf, env_pick, env_alloc, env_box, env_build, env_buildSlice, env_load, env_store, env_ptr, env_bin, env_un, env_conv, env_make, env_slice, env_fieldAddr, env_field, env_indexAddr, env_index, env_extract, env_len, env_append, env_max, env_min, env_makeMap, env_lookup, env_update])
      exact W.ret rfl
    · repeat (first | with_reducible refine wF ?_ | with_reducible refine wg1 rfl ?_ | with_reducible refine wg0 rfl ?_ | with_reducible refine wpT ?_ | with_reducible refine wpv ?_ | with_reducible refine wsm ?_ | with_reducible refine wrB ?_ | with_reducible refine wbd (by assumption) ?_ | (with_reducible refine wbd (hal _) ?_) | with_reducible refine wlssF (by omega) ?_ | with_reducible refine weqlT (by omega) ?_ | with_reducible refine wneqT (by omega) ?_ | rw [kLoop_exit] | rw [laws_FnOpenings.after0_se0_3_4_6_7_8_51] | dsimp only | simp only [env_C, env_g, env_lf, env_pick, env_alloc, env_box, env_build, env_buildSlice, env_load, env_store, env_ptr, env_bin, env_un, env_conv, env_make, env_slice, env_fieldAddr, env_field, env_indexAddr, env_index, env_extract, env_len, env_append, env_max, env_min, env_makeMap, env_lookup, env_update])
      exact W.ret rfl
  | succ m =>
    have hi : i < (winCellsL (R : Int) (C : Int) (freeL R C) (P : Int)).length := by omega
    obtain ⟨k, hk, hwk⟩ := winCells_mem.1 (List.getElem_mem hi)
    have hkn : k < R * C := ((open_iff hB hP).1 hwk).1
    obtain ⟨ad, ea, la⟩ := f2.now.at' hi
    rw [hk] at la
    have hcell : ((R * C - 1 : Nat) : Int) - (k : Int) = ((R * C - 1 - k : Nat) : Int) := by omega
    have hh1 := hasInt_N g lf n (by omega) (((R * C - 1 : Nat) : Int) - (k : Int)) f2.now (by omega) (by omega)
    rw [hcell, wins_in, open_turn hB hP hwk, ← hcell] at hh1
    obtain ⟨x, hx⟩ : ∃ x, x = k % C := ⟨_, rfl⟩
    obtain ⟨y, hy⟩ : ∃ y, y = k / C := ⟨_, rfl⟩
    have hx9 : x ≤ 9 := by rw [hx]; exact Nat.le_trans (Nat.mod_le _ _) (by omega)
    have hy9 : y ≤ 9 := by rw [hy]; exact Nat.le_trans (Nat.div_le_self _ _) (by omega)
    have hxm : x * R ≤ 36 := Nat.mul_le_mul hx9 b2
    have hsig : sig C R k = x * R + y := by rw [hx, hy]; rfl
    have hom := open_mir hB hP hkn
    rw [hsig, hwk, ← e3'] at hom
    have hh2 := hasInt_N g lf n (by omega) ((x * R + y : Nat) : Int) f4.now (by omega) (by omega)
    rw [wins_in, hom] at hh2
    repeat (first | with_reducible refine wT ?_ | with_reducible refine wF ?_ | with_reducible refine wg1 rfl ?_ | with_reducible refine wpF ?_ | with_reducible refine wnT ?_ | with_reducible refine wpv ?_ | with_reducible refine wsm ?_ | with_reducible refine wck plain_int ?_ | with_reducible refine wbd (by assumption) ?_ | (with_reducible refine wh1 rfl ?_) | (rw [← hx]) | (rw [← hy]) | with_reducible refine wadd1 (by omega) ?_ | with_reducible refine waddN (by omega) ?_ | with_reducible refine wsub1 (by omega) (by omega) ?_ | with_reducible refine wmulN (by omega) ?_ | with_reducible refine wquoN (by omega) (by omega) ?_ | with_reducible refine wremN (by omega) ?_ | with_reducible refine wlssT (by omega) ?_ | with_reducible refine wsub (by omega) ?_ | dsimp only)
    exact next _ _ (Nat.lt_succ_self m) ⟨i + 1, rfl, by omega⟩

end Go.Proofs.YtlfjjjhjjmikfaaDoor

/- The program's chapter 2: Joins, GapOf, GroupOf, Filled and GapCells compute what the model's do. -/
namespace Go.Proofs.YtlfjjjhjjmikfaaDoor
open Go Go.Ip G

variable (g : Nat → PV) (lf n : Nat)

theorem joinsOk (hlf : 1000 < lf) : JoinsOk g lf := by
  intro N hN r c pl xs p h ht hp hl hf
  obtain ⟨n, rfl⟩ : ∃ n, N = n + 1 := ⟨N - 1, by omega⟩
  have ht' : Tab g h := ht.1
  have hpos := positionOk_N g lf n (by omega) r c hp (by omega) hf
  have hplay := playerOk_W g lf n (by omega) h pl
  have : W (CL g lf (n + 1) fn_impl_Joins [.int .i64 r, .int .i64 c, p, .int .i64 pl] h) fun v h' => v = .bool (joinsL r c xs pl) ∧ Keep h.length h h' := by
    rw [impl_Joins.call_eq]
    unfold impl_Joins.main
    simp only [env_C, env_pick, env_bin, env_un, env_extract]
    unfold joinsL
    cases hb : posB r c xs with
    | false =>
      rw [hb] at hpos
      repeat (first | with_reducible refine wT ?_ | with_reducible refine wg0 rfl ?_ | with_reducible refine wpT ?_ | with_reducible refine wnF ?_ | with_reducible refine wsm ?_ | with_reducible refine wrB ?_ | with_reducible refine wbd (by assumption) ?_ | dsimp only)
      exact W.ret ⟨rfl, Keep.refl _ _⟩
    | true =>
      rw [hb] at hpos
      cases hpl : playerB pl with
      | false =>
        rw [hpl] at hplay
        repeat (first | with_reducible refine wT ?_ | with_reducible refine wg1 rfl ?_ | with_reducible refine wpF ?_ | with_reducible refine wnT ?_ | with_reducible refine wnF ?_ | with_reducible refine wpv ?_ | with_reducible refine wsm ?_ | with_reducible refine wrB ?_ | with_reducible refine wbd (by assumption) ?_ | dsimp only)
        exact W.ret ⟨rfl, Keep.refl _ _⟩
      | true =>
        rw [hpl] at hplay
        obtain ⟨R, C, hS⟩ := sides_of hb
        obtain ⟨P, rfl, hP⟩ := player_of hpl
        have hB := board_of_sides hS
        obtain ⟨rfl, rfl, _, _, _, _, h9, hlen, _⟩ := id hS
        have hst := set_lt9 hS (P : Int)
        have e1 := sidesOf_W g lf hB hP n (by omega) hlf h
        have e2 := setOf_W g lf (P : Int) hp (by omega) n (by omega) hlf
        have s1 := sideN_lt (P := P) (last := false) hB
        have s2 := sideN_lt (P := P) (last := true) hB
        have a1 : sideN R C P false &&& setL xs (P : Int) < 2 ^ 9 := Nat.and_lt_two_pow _ hst
        obtain ⟨h1, e3, k1⟩ := grown_W g lf hB a1 hst n (by omega) hlf ht'
        rw [grown_in] at e3
        have hgl := grow_lt (M := masksN R C) (fr := sideN R C P false) hst
        have hgl2 : growN (masksN R C) (setL xs (P : Int)) (sideN R C P false) &&& sideN R C P true < 2 ^ 9 := Nat.and_lt_two_pow _ s2
        repeat (first | with_reducible refine wF ?_ | with_reducible refine wg1 rfl ?_ | with_reducible refine wpF ?_ | with_reducible refine wnT ?_ | with_reducible refine wpv ?_ | with_reducible refine wsm ?_ | with_reducible refine wx0 ?_ | with_reducible refine wx1 ?_ | with_reducible refine wbd (by assumption) ?_ | with_reducible refine wand (by omega) (by omega) ?_ | dsimp only)
        show W _ fun v h' => v = .bool (true && true && joinsN R C P (setL xs (P : Int))) ∧ Keep h.length h h'
        unfold joinsN
        refine wneq (fun e => ?_) (fun e => ?_)
        · repeat (first | with_reducible refine wrB ?_)
          refine W.ret ⟨?_, k1⟩
          rw [decide_eq_false (by omega)]; rfl
        · repeat (first | with_reducible refine wrB ?_)
          refine W.ret ⟨?_, k1⟩
          rw [decide_eq_true (by omega)]; rfl
  obtain ⟨_, h', e, rfl, k⟩ := this
  exact ⟨h', e, k⟩

theorem filledOk (hlf : 1000 < lf) : FilledOk g lf := by
  intro N hN r c pl xs p h ht hp hl hf
  obtain ⟨n, rfl⟩ : ∃ n, N = n + 1 := ⟨N - 1, by omega⟩
  have hpos := positionOk_N g lf n (by omega) r c hp (by omega) hf
  have hplay := playerOk_W g lf n (by omega) h pl
  suffices this : W (CL g lf (n + 1) fn_impl_Filled [.int .i64 r, .int .i64 c, p, .int .i64 pl] h) fun q h' => OwnSl h.length h' q (filledL r c xs pl) ∧ Keep h.length h h' by
    obtain ⟨q, h', e, o, k⟩ := this
    exact ⟨q, h', e, o, k⟩
  rw [impl_Filled.call_eq]
  unfold impl_Filled.main
  simp only [env_C, env_lf, env_pick, env_un, env_make, env_len]
  unfold filledL
  cases hb : posB r c xs with
  | false =>
    rw [hb] at hpos
    repeat (first | with_reducible refine wT ?_ | with_reducible refine wg0 rfl ?_ | with_reducible refine wpT ?_ | with_reducible refine wnF ?_ | with_reducible refine wsm ?_ | with_reducible refine wrN ?_ | with_reducible refine wbd (by assumption) ?_ | dsimp only)
    exact W.ret ⟨OwnSl.nil _ _, Keep.refl _ _⟩
  | true =>
    rw [hb] at hpos
    cases hpl : playerB pl with
    | false =>
      rw [hpl] at hplay
      repeat (first | with_reducible refine wT ?_ | with_reducible refine wg1 rfl ?_ | with_reducible refine wpF ?_ | with_reducible refine wnT ?_ | with_reducible refine wnF ?_ | with_reducible refine wpv ?_ | with_reducible refine wsm ?_ | with_reducible refine wrN ?_ | with_reducible refine wbd (by assumption) ?_ | dsimp only)
      exact W.ret ⟨OwnSl.nil _ _, Keep.refl _ _⟩
    | true =>
      rw [hpl] at hplay
      rw [Bool.and_self, if_pos rfl]
      repeat (first | with_reducible refine wF ?_ | with_reducible refine wg1 rfl ?_ | with_reducible refine wpF ?_ | with_reducible refine wnT ?_ | with_reducible refine wpv ?_ | with_reducible refine wsm ?_ | with_reducible refine wbd (by assumption) ?_ | with_reducible refine wlen (by assumption) ?_ | (refine wmake (by omega) fun q h1 o1 k1 => ?_) | dsimp only)
      refine loopW (fun m s => ∃ (i : Nat) (ys : List Int) (h2 : PHeap), s = impl_Filled.st0 (.int .i64 pl) q p (.int .i64 (xs.length : Int)) (.int .i64 (i : Int)) h2 ∧ i + m = xs.length ∧ ys = (xs.take i).map (fillL pl) ++ List.replicate m 0 ∧ OwnSl h.length h2 q ys ∧ Keep h.length h h2) ?_ lf xs.length _ (by omega) ⟨0, _, h1, rfl, by omega, by simp, o1, k1⟩
      rintro n1 m s ⟨i, ys, h2, rfl, him, hy, o2, k2⟩ next
      have hp2 := hp.keep k2
      rw [impl_Filled.body0_eq]
      unfold impl_Filled.body0
      simp only [env_load, env_store, env_bin, env_indexAddr]
      cases m with
      | zero =>
        repeat (first | with_reducible refine wF ?_ | with_reducible refine wlssF (by omega) ?_ | with_reducible refine wresO (by assumption) ?_ | rw [kLoop_exit] | rw [impl_Filled.after0_se0_3_9_25_26_27_28])
        refine W.ret ⟨?_, k2⟩
        rw [List.replicate_zero, List.append_nil, List.take_of_length_le (by omega)] at hy
        exact hy ▸ o2
      | succ m =>
        have hi : i < xs.length := by omega
        have hyl : ys.length = xs.length := by rw [hy]; simp; omega
        have hset : ∀ x, fillL pl xs[i] = x → ys.set i x = (xs.take (i + 1)).map (fillL pl) ++ List.replicate m 0 := fun x hx => by
          have hmin : min i xs.length = i := by omega
          rw [hy, List.set_append_right _ _ (by simp; omega), List.replicate_succ, List.length_map, List.length_take, hmin, Nat.sub_self, List.set_cons_zero, List.take_add_one, List.getElem?_eq_getElem hi, List.map_append, List.append_assoc, ← hx]
          rfl
        repeat (first | with_reducible refine wT ?_ | with_reducible refine wbd (by assumption) ?_ | (with_reducible refine wat hp2 hi fun a hl => ?_) | with_reducible refine wlssT (by omega) ?_)
        refine weql (fun e => ?_) (fun e => ?_)
        · repeat (first | with_reducible refine wT ?_ | (refine wst o2 (show i < ys.length by omega) fun h3 o3 k3 l3 a e3 => ?_) | with_reducible refine wadd1 (by omega) ?_)
          exact next _ _ (Nat.lt_succ_self m) ⟨i + 1, _, h3, rfl, by omega, hset pl (by unfold fillL; rw [if_pos e]), o3, k2.trans k3⟩
        · repeat (first | with_reducible refine wF ?_ | (refine wst o2 (show i < ys.length by omega) fun h3 o3 k3 l3 a e3 => ?_) | with_reducible refine wadd1 (by omega) ?_)
          exact next _ _ (Nat.lt_succ_self m) ⟨i + 1, _, h3, rfl, by omega, hset xs[i] (by unfold fillL; rw [if_neg e]), o3, k2.trans k3⟩

/-- The cells that close a gap, out of the list of the free cells. -/
theorem gapCells_list {R C P : Nat} {xs : List Int} (hb : posB (R : Int) (C : Int) xs = true) (hS : Sides (R : Int) (C : Int) R C xs) (hP : P = 1 ∨ P = 2) {G : Nat} (hG : gapL (R : Int) (C : Int) xs (P : Int) = (G : Int)) (h0 : 0 < G) :
    gapCellsL (R : Int) (C : Int) xs (P : Int) = (listN (setL xs 0)).filter fun k => decide (gapN (masksN R C) (setL xs (P : Int) ||| (1 <<< k.toNat)) (without (setL xs 0) k.toNat) (sideN R C P false) (sideN R C P true) (R * C) < (G : Int)) := by
  have hpos : 0 < gapL (R : Int) (C : Int) xs (P : Int) := by rw [hG]; omega
  have hgn := gapL_eq hb hP
  have hIs : IsGap (masksN R C) (setL xs (P : Int)) (setL xs 0) (sideN R C P false) (sideN R C P true) G := by
    rcases gap_spec (P := P) hS with ⟨k, h1, h2⟩ | ⟨h1, _⟩
    · have : k = G := by rw [← hgn, hG] at h1; omega
      exact this ▸ h2
    · rw [← hgn, hG] at h1; omega
  unfold gapCellsL
  rw [if_pos hpos, listN_filter, List.filter_map, List.filter_filter]
  congr 1
  have hx9 : xs.length ≤ 9 := by have := hS.2.2.2.2.2.2.2.1; have := hS.2.2.2.2.2.2.1; omega
  have h9 : List.range 9 = List.range xs.length ++ (List.range' xs.length (9 - xs.length)) := by
    rw [List.range_eq_range', List.range_eq_range', show 9 = xs.length + (9 - xs.length) by omega, ← List.range'_append_1]; simp
  rw [h9, List.filter_append]
  have hnil : (List.range' xs.length (9 - xs.length)).filter (fun k => ((fun k : Int => decide (gapN (masksN R C) (setL xs (P : Int) ||| (1 <<< k.toNat)) (without (setL xs 0) k.toNat) (sideN R C P false) (sideN R C P true) (R * C) < (G : Int))) ∘ fun k : Nat => (k : Int)) k && (setL xs 0).testBit k) = [] := by
    rw [List.filter_eq_nil_iff]
    intro k hk
    rw [List.mem_range'_1] at hk
    have : (setL xs 0).testBit k = false := by
      cases e : (setL xs 0).testBit k with
      | false => rfl
      | true => have := set_in hS e; have := hS.2.2.2.2.2.2.2.1; omega
    simp [this]
  rw [hnil, List.append_nil]
  apply List.filter_congr
  intro k hk
  rw [List.mem_range] at hk
  have hgd : xs.getD k 0 = xs[k] := by rw [List.getD_eq_getElem?_getD, List.getElem?_eq_getElem hk]; rfl
  have hbit : (setL xs 0).testBit k = decide (xs.getD k 0 = 0) := by
    rw [Bool.eq_iff_iff, setL_bit, decide_eq_true_iff, hgd, List.getElem?_eq_getElem hk, Option.some.injEq]
  rw [hbit, Bool.and_comm]
  cases hz : decide (xs.getD k 0 = 0) with
  | false => rw [Bool.and_false, Bool.and_false]
  | true =>
    have hk0 : xs[k]? = some 0 := by rw [List.getElem?_eq_getElem hk, ← hgd, of_decide_eq_true hz]
    obtain ⟨m1, m2, m3⟩ := set_more hS hP hk0
    have hgs := gapL_eq (pos_set hb hP k) hP
    rw [Bool.and_true, Bool.and_true, hgs, hG]
    rw [m1, m2]
    have hst := gap_stone hS hP hk0 hIs
    rw [m1, m2] at hst
    show decide _ = decide (gapN (masksN R C) (setL xs (P : Int) ||| (1 <<< k)) (without (setL xs 0) k) (sideN R C P false) (sideN R C P true) (R * C) < (G : Int))
    apply decide_eq_decide.2
    rcases hst with h | ⟨_, h⟩ <;> rw [h] <;> omega

end Go.Proofs.YtlfjjjhjjmikfaaDoor

/- The least cell of a set, as the library finds it by its table of 64 bytes; and comparing a slice with nil, copying it. -/
namespace Go.Proofs.YtlfjjjhjjmikfaaDoor
open Go Go.Ip G

/-- The least number in a set of nine; nine if there is none. -/
def lowN (x : Nat) : Nat := ((List.range 9).find? fun k => x.testBit k).getD 9
def lsB (x : Nat) : Bool := x.testBit (lowN x) && decide (lowN x < 9) && (List.range (lowN x)).all (fun j => !x.testBit j) && (x &&& (x - 1) == without x (lowN x))
theorem ls_all : ((List.range 512).all fun x => x == 0 || lsB x) = true := by kernel_rfl
theorem low_ok {x : Nat} (hx : x < 2 ^ 9) (h0 : x ≠ 0) : x.testBit (lowN x) = true ∧ lowN x < 9 ∧ (∀ j, j < lowN x → x.testBit j = false) ∧ x &&& (x - 1) = without x (lowN x) := by
  have h := List.all_eq_true.1 ls_all x (List.mem_range.2 hx)
  have h1 : lsB x = true := by
    rcases Bool.or_eq_true_iff.1 h with h | h
    · exact absurd (by simpa using h) h0
    · exact h
  unfold lsB at h1
  simp only [Bool.and_eq_true, decide_eq_true_eq, beq_iff_eq] at h1
  obtain ⟨⟨⟨a, b⟩, c⟩, d⟩ := h1
  exact ⟨a, b, fun j hj => by have := List.all_eq_true.1 c j (List.mem_range.2 hj); simpa using this, d⟩

/-- What the library computes, step by step. -/
def isU (o : Option PV) (a : Nat) : Bool := match o with | some (.int .u64 (.ofNat b)) => b == a | _ => false
theorem isU_eq {o : Option PV} {a : Nat} (h : isU o a = true) : o = some (.int .u64 (a : Int)) := by
  unfold isU at h
  split at h
  · have := beq_iff_eq.1 h; subst this; rfl
  · cases h
def tz5 (x : Nat) : Nat := ((1 <<< lowN x) * 285870213051353865) % 2 ^ 64
def tz6 (x : Nat) : Nat := tz5 x / 2 ^ 58
noncomputable def tzB (x : Nat) : Bool := isU (unP .neg (.int .u64 (x : Int))) (2 ^ 64 - x) && (isU (binP Tryd.prog .and 76 (.int .u64 (x : Int)) (.int .u64 ((2 ^ 64 - x : Nat) : Int))) (1 <<< lowN x) &&
  (isU (binP Tryd.prog .mul 76 (.int .u64 ((1 <<< lowN x : Nat) : Int)) (.int .u64 285870213051353865)) (tz5 x) && (isU (binP Tryd.prog .shr 76 (.int .u64 (tz5 x : Int)) (.int .u64 58)) (tz6 x) && tab64N[tz6 x]? == some (lowN x))))
theorem tz_all : ((List.range 512).all fun x => x == 0 || tzB x) = true := by kernel_rfl
theorem tz_one {x : Nat} (hx : x < 2 ^ 9) (h0 : x ≠ 0) : tzB x = true := by
  have h := List.all_eq_true.1 tz_all x (List.mem_range.2 hx)
  rcases Bool.or_eq_true_iff.1 h with h | h
  · exact absurd (beq_iff_eq.1 h) h0
  · exact h
theorem tz_steps {x : Nat} (hx : x < 2 ^ 9) (h0 : x ≠ 0) : ∃ v3 v4 v5, ∃ i : Nat, unP .neg (.int .u64 (x : Int)) = some v3 ∧ binP Tryd.prog .and 76 (.int .u64 (x : Int)) v3 = some v4 ∧ binP Tryd.prog .mul 76 v4 (.int .u64 285870213051353865) = some v5 ∧
    binP Tryd.prog .shr 76 v5 (.int .u64 58) = some (.int .u64 (i : Int)) ∧ tab64N[i]? = some (lowN x) := by
  have h1 := tz_one hx h0
  unfold tzB at h1
  obtain ⟨a, h1⟩ := Bool.and_eq_true_iff.1 h1
  obtain ⟨b, h1⟩ := Bool.and_eq_true_iff.1 h1
  obtain ⟨c, h1⟩ := Bool.and_eq_true_iff.1 h1
  obtain ⟨d, h1⟩ := Bool.and_eq_true_iff.1 h1
  exact ⟨_, _, _, _, isU_eq a, isU_eq b, isU_eq c, isU_eq d, beq_iff_eq.1 h1⟩

theorem tyTzU : Tryd.prog.underlying 80 = some (.array 64 5) := by kernel_rfl
theorem tyTz1 : sizeT Tryd.prog 5 = some 1 := by kernel_rfl
theorem tyTzA : isAggT Tryd.prog 5 = some false := by kernel_rfl
theorem tzConv (l : Nat) (hl : l < 9) : convP Tryd.prog 5 3 (.int .u8 (l : Int)) = some (.int .i64 (l : Int)) := by
  have : convP Tryd.prog 5 3 (.int .u8 (l : Int)) = some (.int .i64 (IntKind.i64.wrap (l : Int))) := by kernel_rfl
  rw [this, wr (by omega)]
theorem tzConv2 (x : Nat) (hx : x < 2 ^ 9) : convP Tryd.prog 3 46 (.int .i64 (x : Int)) = some (.int .u64 (x : Int)) := by
  have : convP Tryd.prog 3 46 (.int .i64 (x : Int)) = some (.int .u64 (IntKind.u64.wrap (x : Int))) := by kernel_rfl
  rw [this]
  have : IntKind.u64.wrap (x : Int) = (x : Int) := by unfold IntKind.wrap; simp [IntKind.bits, IntKind.signed]; omega
  rw [this]

variable (g : Nat → PV) (lf n : Nat)

/-- The library's table is known to lie somewhere. -/
def Big (g : Nat → PV) : Prop := ∃ id, g 2 = .ptr id 0

theorem tz64_W {x : Nat} (hx : x < 2 ^ 9) (h0 : x ≠ 0) (hb : Big g) {h : PHeap} (ht : Tab64 g h) (N : Nat) (hN : 1 ≤ N) : CL g lf N fn_bits_TrailingZeros64 [.int .u64 (x : Int)] h = some (.int .i64 (lowN x : Int), h) := by
  obtain ⟨n, rfl⟩ : ∃ n, N = n + 1 := ⟨N - 1, by omega⟩
  obtain ⟨id, hg⟩ := hb
  have ho := ht id hg
  obtain ⟨v3, v4, v5, i, e3, e4, e5, e6, hi⟩ := tz_steps hx h0
  have hi64 : i < 64 := (List.getElem?_eq_some_iff.1 hi).1
  have e7 : indexAddrP Tryd.prog 80 (.ptr id 0) (.int .u64 (i : Int)) = some (.ptr id i) := by simp [indexAddrP, tyTzU, tyTz1]; omega
  have e8 : loadP Tryd.prog 5 (.ptr id i) h = some (.int .u8 (lowN x : Int)) := by
    simp [loadP, tyTzA, cellsAt, ho, PObj.get, tab64Cells, hi]
  have e9 := tzConv (lowN x) (low_ok hx h0).2.1
  have : W (CL g lf (n + 1) fn_bits_TrailingZeros64 [.int .u64 (x : Int)] h) fun v h' => v = .int .i64 (lowN x : Int) ∧ h' = h := by
    rw [bits_TrailingZeros64.call_eq]
    unfold bits_TrailingZeros64.main
    simp only [env_g, env_load, env_bin, env_un, env_conv, env_indexAddr]
    refine weqlF (by omega) ?_
    rw [hg]
    repeat (first | with_reducible refine wF ?_ | with_reducible refine wrI ?_ | with_reducible refine wbd (by assumption) ?_)
    exact W.ret ⟨rfl, rfl⟩
  obtain ⟨_, _, e, rfl, rfl⟩ := this
  exact e

theorem leastIn_W {x : Nat} (hx : x < 2 ^ 9) (h0 : x ≠ 0) (hb : Big g) {h : PHeap} (ht : Tab64 g h) (N : Nat) (hN : 3 ≤ N) : CL g lf N fn_impl_leastIn [.int .i64 (x : Int)] h = some (.int .i64 (lowN x : Int), h) := by
  obtain ⟨n, rfl⟩ : ∃ n, N = n + 1 := ⟨N - 1, by omega⟩
  obtain ⟨n, rfl⟩ : ∃ m, n = m + 1 := ⟨n - 1, by omega⟩
  have e1 := tzConv2 x hx
  have e2 := tz64_W g lf hx h0 hb ht n (by omega)
  have e3 : CL g lf (n + 1) fn_bits_TrailingZeros [.int .u64 (x : Int)] h = some (.int .i64 (lowN x : Int), h) := by
    have : W (CL g lf (n + 1) fn_bits_TrailingZeros [.int .u64 (x : Int)] h) fun v h' => v = .int .i64 (lowN x : Int) ∧ h' = h := by
      rw [bits_TrailingZeros.call_eq]
      unfold bits_TrailingZeros.main
      simp only [env_C, env_conv]
      repeat (first | with_reducible refine wF ?_ | with_reducible refine wrI ?_ | with_reducible refine wbd (by assumption) ?_ | dsimp only)
      exact W.ret ⟨rfl, rfl⟩
    obtain ⟨_, _, e, rfl, rfl⟩ := this
    exact e
  have : W (CL g lf (n + 1 + 1) fn_impl_leastIn [.int .i64 (x : Int)] h) fun v h' => v = .int .i64 (lowN x : Int) ∧ h' = h := by
    rw [impl_leastIn.call_eq]
    unfold impl_leastIn.main
    simp only [env_C, env_conv]
    repeat (first | with_reducible refine wrI ?_ | with_reducible refine wbd (by assumption) ?_ | dsimp only)
    exact W.ret ⟨rfl, rfl⟩
  obtain ⟨_, _, e, rfl, rfl⟩ := this
  exact e

/-- What a set loses with its least cell. -/
theorem f_drop {x : Nat} (hx : x < 2 ^ 9) (h0 : x ≠ 0) : binP Tryd.prog .sub 3 (.int .i64 (x : Int)) (.int .i64 1) = some (.int .i64 ((x - 1 : Nat) : Int)) ∧ binP Tryd.prog .and 3 (.int .i64 (x : Int)) (.int .i64 ((x - 1 : Nat) : Int)) = some (.int .i64 (without x (lowN x) : Int)) := by
  refine ⟨by rw [bin_sub, wr (by omega), show (x : Int) - 1 = ((x - 1 : Nat) : Int) by omega], ?_⟩
  rw [f_and (by omega) (by omega), (low_ok hx h0).2.2.2]
theorem without_lt9 {x k : Nat} (hx : x < 2 ^ 9) : without x k < 2 ^ 9 := by rw [← minusN_one]; exact minusN_lt hx
theorem without_less {x : Nat} (hx : x < 2 ^ 9) (h0 : x ≠ 0) : without x (lowN x) < x := by
  have h := (low_ok hx h0).2.2.2
  rw [← h]
  have : x &&& (x - 1) ≤ x - 1 := Nat.and_le_right
  omega

/-! ### slices.Clone -/
theorem tySlB : isSliceT Tryd.prog 25 = true := by kernel_rfl
theorem wnil {Q : PV → PHeap → Prop} {f : PV → Res} (hf : W (f (.bool true)) Q) : W ((binP Tryd.prog .eql 25 .nilsl .nilsl).bind f) Q := wbd (by simp [binP, tySlB]) hf
theorem wnilF {Q : PV → PHeap → Prop} {f : PV → Res} {i o l : Nat} (hf : W (f (.bool false)) Q) : W ((binP Tryd.prog .eql 25 (.sl i o l) .nilsl).bind f) Q := wbd (by simp [binP, tySlB]) hf

end Go.Proofs.YtlfjjjhjjmikfaaDoor

