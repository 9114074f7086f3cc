/- Texts of this seat, in their order, put together by program. -/
import Derived.Test.YtpaehbfknlpkbabDoorK11
import Derived.Lib.Bytealg
set_option linter.unusedSimpArgs false
set_option linter.unusedVariables false
set_option linter.unusedSectionVars false
/- What chapter 3's functions tell of a position (moveL, playedL, winL, winCellsL, lineL), and what holds of them. No program text. -/
set_option maxRecDepth 20000
namespace Go.Proofs.YtpaehbfknlpkbabDoor
open Go Go.Ip G

def moveL (r c : Int) (xs : List Int) (k pl : Int) : Bool := posB r c xs && playerB pl && decide (0 ≤ k ∧ k < (xs.length : Int)) && decide (xs.getD k.toNat 0 = 0) && !joinsL r c xs 1 && !joinsL r c xs 2
def playedL (r c : Int) (xs : List Int) (k pl : Int) : List Int := if moveL r c xs k pl = true then xs.set k.toNat pl else []
def winL (r c : Int) (xs : List Int) (t : Int) : Int := if (posB r c xs && playerB t) = true then ((winN r.toNat c.toNat (setL xs 1) (setL xs 2) t.toNat : Nat) : Int) else 0
def winsB (r c : Int) (xs : List Int) (pl : Int) (k : Nat) : Bool := moveL r c xs (k : Int) pl && decide (winL r c (xs.set k pl) (3 - pl) = pl)
def winCellsL (r c : Int) (xs : List Int) (pl : Int) : List Int := ((List.range xs.length).filter (winsB r c xs pl)).map fun k : Nat => (k : Int)
def goB (r c : Int) (xs : List Int) : Bool := !decide (setL xs 0 = 0) && !joinsL r c xs 1 && !joinsL r c xs 2
def stepL (r c : Int) (xs : List Int) (t : Int) : Int := (winCellsL r c xs t).headD ((listN (setL xs 0)).headD 0)
def lineF (r c : Int) : Nat → List Int → Int → List Int
  | 0, _, _ => []
  | f + 1, xs, t => if goB r c xs = true then stepL r c xs t :: lineF r c f (xs.set (stepL r c xs t).toNat t) (3 - t) else []
def lineL (r c : Int) (xs : List Int) (t : Int) : List Int := if (posB r c xs && playerB t) = true then lineF r c xs.length xs t else []

/-! ### none -/
theorem playerB_of {P : Nat} (hP : P = 1 ∨ P = 2) : playerB (P : Int) = true := by rcases hP with rfl | rfl <;> rfl
theorem playerB_none {pl : Int} (h : 2 < pl) : playerB pl = false := by unfold playerB; exact decide_eq_false (by omega)
theorem winL_none {r c : Int} {xs : List Int} {pl : Int} (h : posB r c xs = false ∨ 2 < pl) : winL r c xs pl = 0 := by
  unfold winL
  rw [if_neg]
  rcases h with h | h
  · rw [h]; simp
  · rw [playerB_none h]; simp
theorem lineL_none {r c : Int} {xs : List Int} {pl : Int} (h : posB r c xs = false ∨ 2 < pl) : lineL r c xs pl = [] := by
  unfold lineL
  rw [if_neg]
  rcases h with h | h
  · rw [h]; simp
  · rw [playerB_none h]; simp
theorem lineF_length (r c : Int) : ∀ (f : Nat) (xs : List Int) (t : Int), (lineF r c f xs t).length ≤ f
  | 0, _, _ => Nat.le_refl _
  | f + 1, xs, t => by
    rw [lineF]; split
    · have := lineF_length r c f (xs.set (stepL r c xs t).toNat t) (3 - t)
      rw [List.length_cons]; omega
    · exact Nat.zero_le _
theorem lineL_length (r c : Int) (xs : List Int) (t : Int) : (lineL r c xs t).length ≤ xs.length := by
  unfold lineL; split
  · exact lineF_length ..
  · exact Nat.zero_le _
theorem playedL_length (r c : Int) (xs : List Int) (k t : Int) : (playedL r c xs k t).length ≤ xs.length := by
  unfold playedL; split
  · rw [List.length_set]; exact Nat.le_refl _
  · exact Nat.zero_le _

/-! ### sets -/
section
variable {R C : Nat} {xs : List Int} (hb : posB (R : Int) (C : Int) xs = true) (hS : Sides (R : Int) (C : Int) R C xs)
include hS
theorem pos_sets : Pos R C (setL xs 1) (setL xs 2) :=
  ⟨set_lt hS 1, set_lt hS 2, fun j h1 h2 => by
    rw [setL_bit] at h1 h2; rw [h1] at h2; exact absurd (Option.some.inj h2) (by decide)⟩
theorem free_bit {k : Nat} (hk : k < R * C) : (setL xs 1 ||| setL xs 2).testBit k = false ↔ xs[k]? = some 0 := by
  rw [Nat.testBit_or, Bool.or_eq_false_iff]
  have e1 : (setL xs 1).testBit k = false ↔ ¬ xs[k]? = some 1 := by rw [← setL_bit]; simp
  have e2 : (setL xs 2).testBit k = false ↔ ¬ xs[k]? = some 2 := by rw [← setL_bit]; simp
  rw [e1, e2]
  rcases content_cases hS hk with h | h | h <;> rw [h] <;> simp
omit hS
theorem set_putA {P k : Nat} (hP : P = 1 ∨ P = 2) (hk : xs[k]? = some 0) : setL (xs.set k (P : Int)) 1 = putA P k (setL xs 1) ∧ setL (xs.set k (P : Int)) 2 = putB P k (setL xs 2) := by
  have hkl : k < xs.length := (List.getElem?_eq_some_iff.1 hk).1
  rcases hP with rfl | rfl
  · refine ⟨Nat.eq_of_testBit_eq fun j => ?_, Nat.eq_of_testBit_eq fun j => ?_⟩
    · show _ = (setL xs 1 ||| (1 <<< k)).testBit j
      rw [with_bit, Bool.eq_iff_iff, Bool.or_eq_true, decide_eq_true_iff, setL_bit, setL_bit, List.getElem?_set]
      by_cases e : k = j
      · subst e; simp [hkl]
      · rw [if_neg e]; exact ⟨.inl, fun h => h.resolve_right fun h2 => e h2.symm⟩
    · show _ = (setL xs 2).testBit j
      rw [Bool.eq_iff_iff, setL_bit, setL_bit, List.getElem?_set]
      by_cases e : k = j
      · subst e; rw [hk]; simp [hkl]
      · rw [if_neg e]
  · refine ⟨Nat.eq_of_testBit_eq fun j => ?_, Nat.eq_of_testBit_eq fun j => ?_⟩
    · show _ = (setL xs 1).testBit j
      rw [Bool.eq_iff_iff, setL_bit, setL_bit, List.getElem?_set]
      by_cases e : k = j
      · subst e; rw [hk]; simp [hkl]
      · rw [if_neg e]
    · show _ = (setL xs 2 ||| (1 <<< k)).testBit j
      rw [with_bit, Bool.eq_iff_iff, Bool.or_eq_true, decide_eq_true_iff, setL_bit, setL_bit, List.getElem?_set]
      by_cases e : k = j
      · subst e; simp [hkl]
      · rw [if_neg e]; exact ⟨.inl, fun h => h.resolve_right fun h2 => e h2.symm⟩
include hb
theorem joins_one : joinsL (R : Int) (C : Int) xs 1 = joinsN R C 1 (setL xs 1) := joinsL_eq (P := 1) hb (.inl rfl)
theorem joins_two : joinsL (R : Int) (C : Int) xs 2 = joinsN R C 2 (setL xs 2) := joinsL_eq (P := 2) hb (.inr rfl)
theorem winL_eq {T : Nat} (hT : T = 1 ∨ T = 2) : winL (R : Int) (C : Int) xs (T : Int) = ((winN R C (setL xs 1) (setL xs 2) T : Nat) : Int) := by
  unfold winL; rw [hb, playerB_of hT]; rfl
theorem winL_set {P T k : Nat} (hP : P = 1 ∨ P = 2) (hT : T = 1 ∨ T = 2) (hk : xs[k]? = some 0) : winL (R : Int) (C : Int) (xs.set k (P : Int)) (T : Int) = ((winN R C (putA P k (setL xs 1)) (putB P k (setL xs 2)) T : Nat) : Int) := by
  rw [winL_eq (pos_set hb hP k) hT, (set_putA hP hk).1, (set_putA hP hk).2]
theorem winL_cases {T : Nat} (hT : T = 1 ∨ T = 2) : ∃ W : Nat, winL (R : Int) (C : Int) xs (T : Int) = (W : Int) ∧ (W = 1 ∨ W = 2) := ⟨_, winL_eq hb hT, win_cases hT⟩
include hS
theorem sides_set {P k : Nat} (hP : P = 1 ∨ P = 2) : Sides (R : Int) (C : Int) R C (xs.set k (P : Int)) := by
  have h2 := pos_set hb hP k
  obtain ⟨a1, a2, a3, a4, a5, a6, a7, a8, a9⟩ := hS
  refine ⟨a1, a2, a3, a4, a5, a6, a7, by rw [List.length_set]; exact a8, ?_⟩
  unfold posB at h2; rw [Bool.and_eq_true] at h2; exact h2.2
theorem free_some (h1 : joinsL (R : Int) (C : Int) xs 1 = false) (h2 : joinsL (R : Int) (C : Int) xs 2 = false) : ∃ k, k < xs.length ∧ xs[k]? = some 0 := by
  rw [joins_one hb] at h1; rw [joins_two hb] at h2
  obtain ⟨k, hk, hf⟩ := (pos_sets hS).free (board_of_sides hS) h1 h2
  have hlen : xs.length = R * C := hS.2.2.2.2.2.2.2.1
  exact ⟨k, by rw [hlen]; exact hk, (free_bit hS hk).1 hf⟩
theorem winL_done {P T : Nat} (hP : P = 1 ∨ P = 2) (hT : T = 1 ∨ T = 2) (hj : joinsL (R : Int) (C : Int) xs (P : Int) = true) : winL (R : Int) (C : Int) xs (T : Int) = (P : Int) := by
  rw [winL_eq hb hT]
  rcases hP with rfl | rfl
  · rw [win_first]; rw [← joins_one hb]; exact hj
  · rw [win_second (board_of_sides hS) (pos_sets hS)]; rw [← joins_two hb]; exact hj
theorem winL_open {T : Nat} (hT : T = 1 ∨ T = 2) (h1 : joinsL (R : Int) (C : Int) xs 1 = false) (h2 : joinsL (R : Int) (C : Int) xs 2 = false) : winL (R : Int) (C : Int) xs (T : Int) = (T : Int) ↔ ∃ k : Nat, xs[k]? = some 0 ∧ winL (R : Int) (C : Int) (xs.set k (T : Int)) (3 - (T : Int)) = (T : Int) := by
  have hlen : xs.length = R * C := hS.2.2.2.2.2.2.2.1
  have hT' : 3 - T = 1 ∨ 3 - T = 2 := by omega
  have e3 : (3 : Int) - (T : Int) = ((3 - T : Nat) : Int) := by omega
  rw [winL_eq hb hT, win_open (by rw [← joins_one hb]; exact h1) (by rw [← joins_two hb]; exact h2)]
  have : (((if moveB R C (setL xs 1) (setL xs 2) T = true then T else 3 - T : Nat) : Int) = (T : Int)) ↔ moveB R C (setL xs 1) (setL xs 2) T = true := by
    cases moveB R C (setL xs 1) (setL xs 2) T
    · simp only [Bool.false_eq_true, ↓reduceIte]; rcases hT with rfl | rfl <;> decide
    · simp only [↓reduceIte]
  rw [this, moveB_iff]
  constructor
  · rintro ⟨k, hk, hf, hw⟩
    have hk0 := (free_bit hS hk).1 hf
    exact ⟨k, hk0, by rw [e3, winL_set hb hT hT' hk0, hw]⟩
  · rintro ⟨k, hk0, hw⟩
    have hk : k < R * C := by rw [← hlen]; exact (List.getElem?_eq_some_iff.1 hk0).1
    rw [e3, winL_set hb hT hT' hk0] at hw
    exact ⟨k, hk, (free_bit hS hk).2 hk0, Int.ofNat_inj.1 hw⟩
end

/-! ### turned, mirrored -/
section
variable {R C : Nat} {xs : List Int} (hb : posB (R : Int) (C : Int) xs = true) (hS : Sides (R : Int) (C : Int) R C xs)
include hb hS
end

/-! ### moves -/
theorem moveL_iff {r c : Int} {xs : List Int} {pl : Int} {k : Nat} : moveL r c xs (k : Int) pl = true ↔ posB r c xs = true ∧ playerB pl = true ∧ xs[k]? = some 0 ∧ joinsL r c xs 1 = false ∧ joinsL r c xs 2 = false := by
  unfold moveL
  simp only [Bool.and_eq_true, Bool.not_eq_true', decide_eq_true_eq]
  constructor
  · rintro ⟨⟨⟨⟨⟨h1, h2⟩, h3⟩, h4⟩, h5⟩, h6⟩
    have hk : k < xs.length := by omega
    refine ⟨h1, h2, ?_, h5, h6⟩
    rw [List.getElem?_eq_getElem hk]
    have : xs.getD k 0 = xs[k] := by rw [List.getD_eq_getElem?_getD, List.getElem?_eq_getElem hk]; rfl
    rw [← this]
    exact congrArg some h4
  · rintro ⟨h1, h2, h3, h5, h6⟩
    have hk : k < xs.length := (List.getElem?_eq_some_iff.1 h3).1
    refine ⟨⟨⟨⟨⟨h1, h2⟩, by omega⟩, ?_⟩, h5⟩, h6⟩
    show xs.getD k 0 = 0
    rw [List.getD_eq_getElem?_getD, h3]; rfl
theorem moveL_cell {r c : Int} {xs : List Int} {k pl : Int} (h : moveL r c xs k pl = true) : ∃ K : Nat, k = (K : Int) ∧ K < xs.length := by
  unfold moveL at h
  simp only [Bool.and_eq_true, decide_eq_true_eq] at h
  have := h.1.1.1.2
  obtain ⟨K, rfl⟩ := Int.eq_ofNat_of_zero_le this.1
  exact ⟨K, rfl, by omega⟩
theorem playedL_eq {r c : Int} {xs : List Int} {k : Nat} {pl : Int} (h : moveL r c xs (k : Int) pl = true) : playedL r c xs (k : Int) pl = xs.set k pl := by
  unfold playedL; rw [if_pos h]; rfl
/-- A stone of the other one joins nothing. -/
theorem joins_other_set {R C P : Nat} {xs : List Int} (hb : posB (R : Int) (C : Int) xs = true) (hP : P = 1 ∨ P = 2) {k : Nat} (hk : xs[k]? = some 0) : joinsL (R : Int) (C : Int) (xs.set k (P : Int)) ((3 - P : Nat) : Int) = joinsL (R : Int) (C : Int) xs ((3 - P : Nat) : Int) := by
  have hb2 := pos_set hb hP k
  have h := set_putA hP hk
  rcases hP with rfl | rfl
  · have e1 := joins_two hb2
    have e2 := joins_two hb
    rw [h.2] at e1
    exact e1.trans e2.symm
  · have e1 := joins_one hb2
    have e2 := joins_one hb
    rw [h.1] at e1
    exact e1.trans e2.symm

/-! ### winning cells -/
theorem winsB_iff {r c : Int} {xs : List Int} {pl : Int} {k : Nat} : winsB r c xs pl k = true ↔ moveL r c xs (k : Int) pl = true ∧ winL r c (xs.set k pl) (3 - pl) = pl := by
  unfold winsB; rw [Bool.and_eq_true, decide_eq_true_eq]
theorem winCells_mem {r c : Int} {xs : List Int} {pl : Int} {e : Int} : e ∈ winCellsL r c xs pl ↔ ∃ k : Nat, e = (k : Int) ∧ winsB r c xs pl k = true := by
  unfold winCellsL
  rw [List.mem_map]
  constructor
  · rintro ⟨k, hk, rfl⟩
    exact ⟨k, rfl, (List.mem_filter.1 hk).2⟩
  · rintro ⟨k, rfl, hk⟩
    refine ⟨k, List.mem_filter.2 ⟨List.mem_range.2 ?_, hk⟩, rfl⟩
    exact (List.getElem?_eq_some_iff.1 (moveL_iff.1 (winsB_iff.1 hk).1).2.2.1).1
section
variable {R C : Nat} {xs : List Int} (hb : posB (R : Int) (C : Int) xs = true) (hS : Sides (R : Int) (C : Int) R C xs)
include hb hS
theorem winCells_some {P : Nat} (hP : P = 1 ∨ P = 2) (h1 : joinsL (R : Int) (C : Int) xs 1 = false) (h2 : joinsL (R : Int) (C : Int) xs 2 = false) : 0 < (winCellsL (R : Int) (C : Int) xs (P : Int)).length ↔ winL (R : Int) (C : Int) xs (P : Int) = (P : Int) := by
  rw [winL_open hb hS hP h1 h2, List.length_pos_iff_exists_mem]
  constructor
  · rintro ⟨e, he⟩
    obtain ⟨k, rfl, hk⟩ := winCells_mem.1 he
    have hk := winsB_iff.1 hk
    exact ⟨k, (moveL_iff.1 hk.1).2.2.1, hk.2⟩
  · rintro ⟨k, hk, hw⟩
    exact ⟨(k : Int), winCells_mem.2 ⟨k, rfl, winsB_iff.2 ⟨moveL_iff.2 ⟨hb, playerB_of hP, hk, h1, h2⟩, hw⟩⟩⟩
omit hb hS
include hb hS
end

/-! ### played on -/
theorem listN_some {S : Nat} (hS : S < 2 ^ 9) (h : S ≠ 0) : ∃ (k : Nat) (l : List Int), listN S = (k : Int) :: l ∧ S.testBit k = true := by
  cases e : listN S with
  | nil =>
    obtain ⟨j, hj⟩ : ∃ j, S.testBit j = true := by
      apply Classical.byContradiction
      intro hh
      refine h (Nat.eq_of_testBit_eq fun j => ?_)
      rw [Nat.zero_testBit]
      cases e : S.testBit j with
      | false => rfl
      | true => exact (hh ⟨j, e⟩).elim
    have := (listN_mem hS (j : Int)).2 ⟨j, rfl, hj⟩
    rw [e] at this; cases this
  | cons a l =>
    obtain ⟨j, rfl, hj⟩ := (listN_mem hS a).1 (by rw [e]; exact List.mem_cons_self ..)
    exact ⟨j, l, rfl, hj⟩
section
variable {R C : Nat} {xs : List Int} (hb : posB (R : Int) (C : Int) xs = true) (hS : Sides (R : Int) (C : Int) R C xs)
include hb hS
theorem goB_iff : goB (R : Int) (C : Int) xs = true ↔ joinsL (R : Int) (C : Int) xs 1 = false ∧ joinsL (R : Int) (C : Int) xs 2 = false := by
  unfold goB
  simp only [Bool.and_eq_true, Bool.not_eq_true', decide_eq_false_iff_not]
  constructor
  · exact fun h => ⟨h.1.2, h.2⟩
  · rintro ⟨h1, h2⟩
    refine ⟨⟨fun h0 => ?_, h1⟩, h2⟩
    obtain ⟨k, _, hk⟩ := free_some hb hS h1 h2
    have := setL_bit.2 hk
    rw [h0, Nat.zero_testBit] at this; cases this
/-- The move that is played: it may be made, and who wins wins still. -/
theorem stepL_ok {T W : Nat} (hT : T = 1 ∨ T = 2) (hW : W = 1 ∨ W = 2) (hg : goB (R : Int) (C : Int) xs = true) (hw : winL (R : Int) (C : Int) xs (T : Int) = (W : Int)) :
    ∃ k : Nat, stepL (R : Int) (C : Int) xs (T : Int) = (k : Int) ∧ moveL (R : Int) (C : Int) xs (k : Int) (T : Int) = true ∧ winL (R : Int) (C : Int) (xs.set k (T : Int)) (3 - (T : Int)) = (W : Int) := by
  obtain ⟨h1, h2⟩ := (goB_iff hb hS).1 hg
  have hT' : 3 - T = 1 ∨ 3 - T = 2 := by omega
  have e3 : (3 : Int) - (T : Int) = ((3 - T : Nat) : Int) := by omega
  unfold stepL
  cases e : winCellsL (R : Int) (C : Int) xs (T : Int) with
  | cons a l =>
    obtain ⟨k, rfl, hk⟩ := winCells_mem.1 (show a ∈ winCellsL (R : Int) (C : Int) xs (T : Int) by rw [e]; exact List.mem_cons_self ..)
    have hk := winsB_iff.1 hk
    have : winL (R : Int) (C : Int) xs (T : Int) = (T : Int) := (winCells_some hb hS hT h1 h2).1 (by rw [e]; simp)
    have hWT : W = T := by omega
    subst hWT
    exact ⟨k, rfl, hk.1, hk.2⟩
  | nil =>
    have hs0 : setL xs 0 ≠ 0 := by unfold goB at hg; simp only [Bool.and_eq_true, Bool.not_eq_true', decide_eq_false_iff_not] at hg; exact hg.1.1
    obtain ⟨k, l, hl, hk⟩ := listN_some (set_lt9 hS 0) hs0
    have hk0 := setL_bit.1 hk
    refine ⟨k, by rw [hl]; rfl, moveL_iff.2 ⟨hb, playerB_of hT, hk0, h1, h2⟩, ?_⟩
    have hno : ¬ winL (R : Int) (C : Int) xs (T : Int) = (T : Int) := fun hh => by
      have := (winCells_some hb hS hT h1 h2).2 hh
      rw [e] at this; exact absurd this (by decide)
    have hno2 : ¬ winL (R : Int) (C : Int) (xs.set k (T : Int)) (3 - (T : Int)) = (T : Int) := fun hh => hno ((winL_open hb hS hT h1 h2).2 ⟨k, hk0, hh⟩)
    have hb3 := pos_set hb hT k
    rw [e3] at hno2 ⊢
    obtain ⟨V, hV, hV2⟩ := winL_cases hb3 hT'
    rw [hV] at hno2 ⊢
    omega
end

/-- The position behind a list of moves. -/
def behindL : List Int → List Int → Int → List Int
  | xs, [], _ => xs
  | xs, k :: l, t => behindL (xs.set k.toNat t) l (3 - t)

/-- Each move may be made, and in the end who wins has joined. -/
theorem lineF_ok {R C W : Nat} (hW : W = 1 ∨ W = 2) : ∀ (f : Nat) (xs : List Int) (T : Nat), posB (R : Int) (C : Int) xs = true → Sides (R : Int) (C : Int) R C xs → (T = 1 ∨ T = 2) → pop (setL xs 0) ≤ f → winL (R : Int) (C : Int) xs (T : Int) = (W : Int) →
    joinsL (R : Int) (C : Int) (behindL xs (lineF (R : Int) (C : Int) f xs (T : Int)) (T : Int)) (W : Int) = true := by
  intro f
  induction f with
  | zero =>
    intro xs T hb hS hT hp hw
    have hz : setL xs 0 = 0 := by
      apply Nat.eq_of_testBit_eq
      intro j
      rw [Nat.zero_testBit]
      cases e : (setL xs 0).testBit j with
      | false => rfl
      | true => have := pop_without (set_lt9 hS 0) e; omega
    rw [lineF, behindL]
    cases e1 : joinsL (R : Int) (C : Int) xs 1 with
    | true =>
      have := winL_done hb hS (P := 1) (.inl rfl) hT e1
      have : W = 1 := by omega
      subst this; exact e1
    | false =>
      cases e2 : joinsL (R : Int) (C : Int) xs 2 with
      | true =>
        have := winL_done hb hS (P := 2) (.inr rfl) hT e2
        have : W = 2 := by omega
        subst this; exact e2
      | false =>
        obtain ⟨k, _, hk⟩ := free_some hb hS e1 e2
        have := setL_bit.2 hk
        rw [hz, Nat.zero_testBit] at this; cases this
  | succ f ih =>
    intro xs T hb hS hT hp hw
    rw [lineF]
    cases hg : goB (R : Int) (C : Int) xs with
    | false =>
      rw [if_neg (by decide), behindL]
      cases e1 : joinsL (R : Int) (C : Int) xs 1 with
      | true =>
        have := winL_done hb hS (P := 1) (.inl rfl) hT e1
        have : W = 1 := by omega
        subst this; exact e1
      | false =>
        cases e2 : joinsL (R : Int) (C : Int) xs 2 with
        | true =>
          have := winL_done hb hS (P := 2) (.inr rfl) hT e2
          have : W = 2 := by omega
          subst this; exact e2
        | false => rw [(goB_iff hb hS).2 ⟨e1, e2⟩] at hg; cases hg
    | true =>
      rw [if_pos rfl, behindL]
      obtain ⟨k, hk, hm, hv⟩ := stepL_ok hb hS hT hW hg hw
      have hT' : 3 - T = 1 ∨ 3 - T = 2 := by omega
      have e3 : (3 : Int) - (T : Int) = ((3 - T : Nat) : Int) := by omega
      have hk0 := (moveL_iff.1 hm).2.2.1
      rw [hk]
      rw [e3] at hv ⊢
      refine ih (xs.set k (T : Int)) (3 - T) (pos_set hb hT k) (sides_set hb hS hT) hT' ?_ hv
      have h0 := (set_more hS hT hk0).2.1
      rw [h0]
      have := pop_without (set_lt9 hS 0) (setL_bit.2 hk0)
      omega

end Go.Proofs.YtpaehbfknlpkbabDoor

/- The model's table of who wins: each position has a place of its own in it. No program text. -/
set_option maxRecDepth 20000
namespace Go.Proofs.YtpaehbfknlpkbabDoor
open Go Go.Ip G

/-- The place of a position, from its first k cells: the same number as the model reckons. -/
def keyF (a b : Nat) : Nat → Nat
  | 0 => 0
  | k + 1 => 3 * keyF a b k + (a >>> k % 2) + 2 * (b >>> k % 2)

theorem digit_le {R C a b : Nat} (h : Pos R C a b) (k : Nat) : a >>> k % 2 + 2 * (b >>> k % 2) ≤ 2 := by
  have h1 := bit_iff a k
  have h2 := bit_iff b k
  rcases Nat.mod_two_eq_zero_or_one (a >>> k) with e1 | e1 <;> rcases Nat.mod_two_eq_zero_or_one (b >>> k) with e2 | e2
  · omega
  · omega
  · omega
  · exact (h.2.2 k (h1.1 e1) (h2.1 e2)).elim
theorem key_lt {R C a b : Nat} (h : Pos R C a b) : ∀ k, keyF a b k < 3 ^ k
  | 0 => Nat.zero_lt_one
  | k + 1 => by
    have ih := key_lt h k
    have hd := digit_le h k
    rw [keyF, Nat.pow_succ]; omega
theorem key_inj {R C a b a' b' : Nat} (h : Pos R C a b) (h' : Pos R C a' b') : ∀ k, keyF a b k = keyF a' b' k → ∀ i, i < k → a.testBit i = a'.testBit i ∧ b.testBit i = b'.testBit i
  | 0, _, i, hi => by omega
  | k + 1, he, i, hi => by
    have hd := digit_le h k
    have hd' := digit_le h' k
    rw [keyF, keyF] at he
    have e1 : keyF a b k = keyF a' b' k := by omega
    have e2 : a >>> k % 2 = a' >>> k % 2 ∧ b >>> k % 2 = b' >>> k % 2 := by
      have := Nat.mod_two_eq_zero_or_one (a >>> k); have := Nat.mod_two_eq_zero_or_one (a' >>> k); omega
    by_cases hik : i = k
    · subst hik
      have t : ∀ x y : Nat, x >>> i % 2 = y >>> i % 2 → x.testBit i = y.testBit i := fun x y e => by
        rw [Bool.eq_iff_iff, ← bit_iff, ← bit_iff, e]
      exact ⟨t _ _ e2.1, t _ _ e2.2⟩
    · exact key_inj h h' k e1 i (by omega)
theorem key_pos {R C a b a' b' : Nat} (h : Pos R C a b) (h' : Pos R C a' b') (he : keyF a b (R * C) = keyF a' b' (R * C)) : a = a' ∧ b = b' := by
  have hk := key_inj h h' _ he
  have t : ∀ x y : Nat, x < 2 ^ (R * C) → y < 2 ^ (R * C) → (∀ i, i < R * C → x.testBit i = y.testBit i) → x = y := fun x y hx hy hxy => by
    apply Nat.eq_of_testBit_eq
    intro j
    by_cases hj : j < R * C
    · exact hxy j hj
    · have e1 : x.testBit j = false := Nat.testBit_lt_two_pow (Nat.lt_of_lt_of_le hx (Nat.pow_le_pow_right (by decide) (by omega)))
      have e2 : y.testBit j = false := Nat.testBit_lt_two_pow (Nat.lt_of_lt_of_le hy (Nat.pow_le_pow_right (by decide) (by omega)))
      rw [e1, e2]
  exact ⟨t _ _ h.1 h'.1 fun i hi => (hk i hi).1, t _ _ h.2.1 h'.2.1 fun i hi => (hk i hi).2⟩

theorem pow3_le {n : Nat} (h : n ≤ 9) : 3 ^ n ≤ 19683 := Nat.pow_le_pow_right (n := 3) (by decide) h

def keyN (R C a b t : Nat) : Nat := 2 * keyF a b (R * C) + (t - 1)
/-- What the table holds: nothing, or who wins. -/
def Inv (R C : Nat) (T : List Int) : Prop := T.length = 2 * 3 ^ (R * C) ∧ ∀ a b t, Pos R C a b → (t = 1 ∨ t = 2) → T[keyN R C a b t]? = some 0 ∨ T[keyN R C a b t]? = some ((winN R C a b t : Nat) : Int)

theorem keyN_lt {R C a b t : Nat} (h : Pos R C a b) (ht : t = 1 ∨ t = 2) : keyN R C a b t < 2 * 3 ^ (R * C) := by
  have := key_lt h (R * C); unfold keyN; omega
theorem Inv.new (R C : Nat) : Inv R C (List.replicate (2 * 3 ^ (R * C)) 0) := by
  refine ⟨List.length_replicate, fun a b t h ht => .inl ?_⟩
  rw [List.getElem?_replicate, if_pos (keyN_lt h ht)]
theorem Inv.put {R C a b t : Nat} {T : List Int} (hi : Inv R C T) (h : Pos R C a b) (ht : t = 1 ∨ t = 2) : Inv R C (T.set (keyN R C a b t) ((winN R C a b t : Nat) : Int)) := by
  refine ⟨by rw [List.length_set]; exact hi.1, fun a' b' t' h' ht' => ?_⟩
  rw [List.getElem?_set]
  by_cases e : keyN R C a b t = keyN R C a' b' t'
  · right
    rw [if_pos e, if_pos (by rw [hi.1]; exact keyN_lt h ht)]
    unfold keyN at e
    have e1 : keyF a b (R * C) = keyF a' b' (R * C) := by omega
    have e2 : t = t' := by omega
    obtain ⟨rfl, rfl⟩ := key_pos h h' e1
    rw [e2]
  · rw [if_neg e]; exact hi.2 a' b' t' h' ht'
theorem Inv.get {R C a b t : Nat} {T : List Int} (hi : Inv R C T) (h : Pos R C a b) (ht : t = 1 ∨ t = 2) : ∃ hl : keyN R C a b t < T.length, T[keyN R C a b t] = 0 ∨ T[keyN R C a b t] = ((winN R C a b t : Nat) : Int) := by
  have hl : keyN R C a b t < T.length := by rw [hi.1]; exact keyN_lt h ht
  refine ⟨hl, ?_⟩
  have := hi.2 a b t h ht
  rw [List.getElem?_eq_getElem hl] at this
  exact this.imp Option.some.inj Option.some.inj

/-- A winning move among the first k cells. -/
def moveTo (R C a b t k : Nat) : Bool := (List.range k).any fun k => !(a ||| b).testBit k && decide (winN R C (putA t k a) (putB t k b) (3 - t) = t)
theorem moveTo_succ (R C a b t k : Nat) : moveTo R C a b t (k + 1) = (moveTo R C a b t k || (!(a ||| b).testBit k && decide (winN R C (putA t k a) (putB t k b) (3 - t) = t))) := by
  unfold moveTo; rw [List.range_succ, List.any_append]; simp
theorem moveTo_mono {R C a b t k : Nat} (hk : k ≤ R * C) (h : moveTo R C a b t k = true) : moveB R C a b t = true := by
  unfold moveTo at h
  rw [List.any_eq_true] at h
  obtain ⟨x, hx, hh⟩ := h
  unfold moveB
  rw [List.any_eq_true]
  exact ⟨x, List.mem_range.2 (by have := List.mem_range.1 hx; omega), hh⟩
end Go.Proofs.YtpaehbfknlpkbabDoor

/- The model's chapter 3: what MoveOk, Played, WinnerOf, WinningCells and LinePlayed of it compute. -/
set_option maxRecDepth 20000
namespace Go.Proofs.YtpaehbfknlpkbabDoor
open Go Go.Ip G

variable (g : Nat → PV) (lf n : Nat)

theorem other_W (N : Nat) (hN : 1 ≤ N) (h : PHeap) {T : Nat} (hT : T = 1 ∨ T = 2) : CL g lf N fn_spec_l1Other [.int .i64 (T : Int)] h = some (.int .i64 ((3 - T : Nat) : Int), h) := by
  have := l1Other_N g lf N hN h (x := (T : Int)) (by rcases hT with rfl | rfl <;> rfl)
  rw [swap_player hT] at this; exact this

theorem specMoveOk_calls {xs : List Int} {p : PV} {h : PHeap} (N : Nat) (hN : 6 ≤ N) (r c k pl : Int) (hp : IntSl .i64 h p xs) (hl : xs.length ≤ 2 ^ 35) (hf : xs.length < lf) (hlf : 1000 < lf) :
    ∃ h', CL g lf N fn_spec_MoveOk [.int .i64 r, .int .i64 c, p, .int .i64 k, .int .i64 pl] h = some (.bool (moveL r c xs k pl), h') ∧ Keep h.length h h' := by
  obtain ⟨n, rfl⟩ : ∃ n, N = n + 1 := ⟨N - 1, by omega⟩
  have hpos := specPositionOk_N g lf n (by omega) r c hp (by omega) hf
  have hin1 : CL g lf n fn_spec_l1In [.int .i64 pl, .int .i64 1, .int .i64 2] h = some (.bool (playerB pl), h) := l1In_N g lf n (by omega) h pl 1 2
  have : W (CL g lf (n + 1) fn_spec_MoveOk [.int .i64 r, .int .i64 c, p, .int .i64 k, .int .i64 pl] h) fun v h' => v = .bool (moveL r c xs k pl) ∧ Keep h.length h h' := by
    rw [spec_MoveOk.call_eq]
    unfold spec_MoveOk.main
    simp only [env_C, env_pick, env_load, env_bin, env_un, env_indexAddr, env_len]
    unfold moveL
    cases hb : posB r c xs with
    | false =>
      rw [hb] at hpos
      repeat (first | with_reducible refine wT ?_ | with_reducible refine wg0 rfl ?_ | with_reducible refine wpT ?_ | with_reducible refine wnF ?_ | with_reducible refine wsm ?_ | with_reducible refine wrB ?_ | with_reducible refine wbd (by assumption) ?_ | dsimp only)
      exact W.ret ⟨rfl, Keep.refl _ _⟩
    | true =>
      rw [hb] at hpos
      cases hpl : playerB pl with
      | false =>
        rw [hpl] at hin1
        repeat (first | with_reducible refine wT ?_ | with_reducible refine wg1 rfl ?_ | with_reducible refine wg0 rfl ?_ | with_reducible refine wpT ?_ | with_reducible refine wpF ?_ | with_reducible refine wnT ?_ | with_reducible refine wnF ?_ | with_reducible refine wpv ?_ | with_reducible refine wsm ?_ | with_reducible refine wrB ?_ | with_reducible refine wbd (by assumption) ?_ | dsimp only)
        exact W.ret ⟨rfl, Keep.refl _ _⟩
      | true =>
        rw [hpl] at hin1
        obtain ⟨R, C, hS⟩ := sides_of hb
        have hlen : xs.length = R * C := hS.2.2.2.2.2.2.2.1
        have hpos1 : 1 ≤ xs.length := by rw [hlen]; exact Nat.mul_pos hS.2.2.1 hS.2.2.2.2.1
        have hin2 : CL g lf n fn_spec_l1In [.int .i64 k, .int .i64 0, .int .i64 ((xs.length - 1 : Nat) : Int)] h = some (.bool (decide (0 ≤ k ∧ k ≤ ((xs.length - 1 : Nat) : Int))), h) := l1In_N g lf n (by omega) h k 0 _
        have hce : decide (0 ≤ k ∧ k ≤ ((xs.length - 1 : Nat) : Int)) = decide (0 ≤ k ∧ k < (xs.length : Int)) := decide_eq_decide.2 (by omega)
        rw [hce] at hin2
        cases hk : decide (0 ≤ k ∧ k < (xs.length : Int)) with
        | false =>
          rw [hk] at hin2
          repeat (first | with_reducible refine wT ?_ | with_reducible refine wg1 rfl ?_ | with_reducible refine wpF ?_ | with_reducible refine wnT ?_ | with_reducible refine wnF ?_ | with_reducible refine wpv ?_ | with_reducible refine wsm ?_ | with_reducible refine wrB ?_ | with_reducible refine wbd (by assumption) ?_ | with_reducible refine wlen (by assumption) ?_ | with_reducible refine wsub1 (by omega) (by omega) ?_ | dsimp only)
          exact W.ret ⟨rfl, Keep.refl _ _⟩
        | true =>
          rw [hk] at hin2
          have hkb := of_decide_eq_true hk
          obtain ⟨K, rfl⟩ := Int.eq_ofNat_of_zero_le hkb.1
          have hK : K < xs.length := by omega
          have hgd : xs.getD (K : Int).toNat 0 = xs[K] := by
            rw [show ((K : Int).toNat) = K from rfl, List.getD_eq_getElem?_getD, List.getElem?_eq_getElem hK]; rfl
          rw [hgd]
          obtain ⟨h1, e1, k1⟩ := specJoins_calls g lf n (by omega) r c 1 hp (by omega) hf hlf
          obtain ⟨h2, e2, k2⟩ := specJoins_calls g lf n (by omega) r c 2 (hp.keep k1) (by omega) hf hlf
          repeat (first | with_reducible refine wF ?_ | with_reducible refine wg1 rfl ?_ | with_reducible refine wpF ?_ | with_reducible refine wnT ?_ | with_reducible refine wpv ?_ | with_reducible refine wsm ?_ | with_reducible refine wbd (by assumption) ?_ | with_reducible refine wlen (by assumption) ?_ | (with_reducible refine wat hp hK fun a hl => ?_) | with_reducible refine wsub1 (by omega) (by omega) ?_ | dsimp only)
          refine weql (fun e => ?_) (fun e => ?_)
          · rw [decide_eq_true e]
            cases hj1 : joinsL r c xs 1 with
            | true =>
              rw [hj1] at e1
              repeat (first | with_reducible refine wg1 rfl ?_ | with_reducible refine wg0 rfl ?_ | with_reducible refine wpT ?_ | with_reducible refine wpF ?_ | with_reducible refine wnT ?_ | with_reducible refine wpv ?_ | with_reducible refine wsm ?_ | with_reducible refine wrB ?_ | with_reducible refine wbd (by assumption) ?_ | dsimp only)
              exact W.ret ⟨by simp, k1⟩
            | false =>
              rw [hj1] at e1
              cases hj2 : joinsL r c xs 2 with
              | true =>
                rw [hj2] at e2
                repeat (first | with_reducible refine wg1 rfl ?_ | with_reducible refine wpT ?_ | with_reducible refine wnT ?_ | with_reducible refine wnF ?_ | with_reducible refine wpv ?_ | with_reducible refine wsm ?_ | with_reducible refine wrB ?_ | with_reducible refine wbd (by assumption) ?_ | dsimp only)
                exact W.ret ⟨by simp, k1.trans (k2.mono k1.1)⟩
              | false =>
                rw [hj2] at e2
                repeat (first | with_reducible refine wg1 rfl ?_ | with_reducible refine wpT ?_ | with_reducible refine wnF ?_ | with_reducible refine wpv ?_ | with_reducible refine wsm ?_ | with_reducible refine wrB ?_ | with_reducible refine wbd (by assumption) ?_ | dsimp only)
                exact W.ret ⟨by simp, k1.trans (k2.mono k1.1)⟩
          · rw [decide_eq_false e]
            repeat (first | with_reducible refine wg0 rfl ?_ | with_reducible refine wpF ?_ | with_reducible refine wsm ?_ | with_reducible refine wrB ?_ | dsimp only)
            exact W.ret ⟨by simp, Keep.refl _ _⟩
  obtain ⟨_, h', e, rfl, k⟩ := this
  exact ⟨h', e, k⟩

theorem specPlayed_calls {xs : List Int} {p : PV} {h : PHeap} (N : Nat) (hN : 7 ≤ N) (r c k pl : Int) (hp : IntSl .i64 h p xs) (hl : xs.length ≤ 2 ^ 35) (hf : xs.length < lf) (hlf : 1000 < lf) :
    ∃ q h', CL g lf N fn_spec_Played [.int .i64 r, .int .i64 c, p, .int .i64 k, .int .i64 pl] h = some (.tup [q, .bool (moveL r c xs k pl)], h') ∧ OwnSl h.length h' q (playedL r c xs k pl) ∧ Keep h.length h h' := by
  obtain ⟨n, rfl⟩ : ∃ n, N = n + 1 := ⟨N - 1, by omega⟩
  obtain ⟨h1, e1, k1⟩ := specMoveOk_calls g lf n (by omega) r c k pl hp hl hf hlf
  have : W (CL g lf (n + 1) fn_spec_Played [.int .i64 r, .int .i64 c, p, .int .i64 k, .int .i64 pl] h) fun v h' => ∃ q, v = .tup [q, .bool (moveL r c xs k pl)] ∧ OwnSl h.length h' q (playedL r c xs k pl) ∧ Keep h.length h h' := by
    rw [spec_Played.call_eq]
    unfold spec_Played.main
    simp only [env_C, env_buildSlice, env_store, env_un, env_indexAddr, env_append]
    unfold playedL
    cases hm : moveL r c xs k pl with
    | false =>
      rw [hm] at e1
      repeat (first | with_reducible refine wT ?_ | with_reducible refine wnF ?_ | with_reducible refine wrB ?_ | with_reducible refine wbd (by assumption) ?_ | (refine wempty fun q h2 o2 k2 => ?_) | with_reducible refine wresO (by assumption) ?_ | dsimp only)
      skip
      exact W.ret ⟨_, rfl, o2.mono k1.1, k1.trans (k2.mono k1.1)⟩
    | true =>
      rw [hm] at e1
      obtain ⟨K, rfl, hK⟩ := moveL_cell hm
      obtain ⟨v, q, h2, e2, e3, o2, k2⟩ := copy_all (hp.keep k1) (by omega) (by omega)
      repeat (first | with_reducible refine wF ?_ | with_reducible refine wnT ?_ | with_reducible refine wrB ?_ | with_reducible refine wbd (by assumption) ?_ | (refine wst o2 hK fun h3 o3 k3 l3 a e4 => ?_) | with_reducible refine wresO (by assumption) ?_ | dsimp only | simp only [env_C, env_Y, env_g, env_lf, env_pick, env_alloc, env_box, env_build, env_buildSlice, env_load, env_store, env_ptr, env_bin, env_un, env_conv, env_make, env_slice, env_fieldAddr, env_field, env_indexAddr, env_index, env_extract, env_len, env_append, env_max, env_min, env_makeMap, env_lookup, env_update, env_clos, env_bstr, env_ext])
      skip
      exact W.ret ⟨_, rfl, o3.mono k1.1, k1.trans ((k2.trans k3).mono k1.1)⟩
  obtain ⟨_, h', e, q, rfl, o, k⟩ := this
  exact ⟨q, h', e, o, k⟩

/-! ### the solver -/
theorem solve_W {R C : Nat} (hB : BoardOf R C) (hlf : 1000 < lf) : ∀ (m a b t N : Nat) (T : List Int) (p pm : PV) (h : PHeap) (b0 : Nat), frN (R * C) a b ≤ m → Pos R C a b → (t = 1 ∨ t = 2) → m + 5 ≤ N → Fix b0 h pm (ints (masksN R C)) → OwnSl b0 h p T → b0 ≤ h.length → Inv R C T →
    W (CL g lf N fn_spec_l3Solve [.int .i64 (R : Int), .int .i64 (C : Int), pm, .int .i64 (a : Int), .int .i64 (b : Int), .int .i64 (t : Int), p] h) fun v h' => v = .int .i64 ((winN R C a b t : Nat) : Int) ∧ ∃ T', OwnSl b0 h' p T' ∧ Inv R C T' ∧ Keep b0 h h' := by
  intro m
  induction m using Nat.strongRecOn with
  | _ m ih =>
  intro a b t N T p pm h b0 hm hp ht hN hpm ho hb0 hi
  obtain ⟨n, rfl⟩ : ∃ n, N = n + 1 := ⟨N - 1, by omega⟩
  have h9 := hB.2.2.2.2
  have l9 := hp.lt9 hB
  have hml : (ints (masksN R C)).length = R * C := by rw [ints_length, masksN_length]
  have e1 := l2Joins_calls g lf hB (P := 1) (.inl rfl) hpm.now l9.1 n (by omega) hlf
  have e2 := l2Joins_calls g lf hB (P := 2) (.inr rfl) hpm.now l9.2 n (by omega) hlf
  rw [spec_l3Solve.call_eq]
  unfold spec_l3Solve.main
  simp only [env_C, env_lf]
  cases j1 : joinsN R C 1 a with
  | true =>
    rw [j1] at e1
    refine wbd e1 ?_
    repeat (first | with_reducible refine wT ?_ | with_reducible refine wrI ?_ | dsimp only)
    exact W.ret ⟨by rw [win_first j1]; rfl, T, ho, hi, Keep.refl _ _⟩
  | false =>
  rw [j1] at e1
  refine wbd e1 ?_
  cases j2 : joinsN R C 2 b with
  | true =>
    rw [j2] at e2
    repeat (first | with_reducible refine wT ?_ | with_reducible refine wF ?_ | with_reducible refine wrI ?_ | (refine wbd e2 ?_) | dsimp only)
    skip
    exact W.ret ⟨by rw [win_second hB hp j2]; rfl, T, ho, hi, Keep.refl _ _⟩
  | false =>
  rw [j2] at e2
  repeat (first | with_reducible refine wF ?_ | (refine wbd e2 ?_) | dsimp only)
  skip
  -- the key
  refine loopW (fun m s => ∃ (k : Nat) (key : Int), s = spec_l3Solve.st0 (.int .i64 (R : Int)) (.int .i64 (C : Int)) pm (.int .i64 (a : Int)) (.int .i64 (b : Int)) (.int .i64 (t : Int)) p (.int .i64 key) (.int .i64 (k : Int)) h ∧ k + m = R * C ∧ key = (keyF a b k : Int)) ?_ lf (R * C) _ (by omega) ⟨0, 0, rfl, by omega, rfl⟩
  rintro n1 m1 s ⟨k, key, rfl, hkm, hkey⟩ next
  have hk3 := key_lt hp k
  have hp3 := pow3_le (show k ≤ 9 by omega)
  rw [spec_l3Solve.body0_eq]
  unfold spec_l3Solve.body0
  simp only [env_bin, env_len]
  cases m1 with
  | succ m1 =>
    repeat (first | with_reducible refine wT ?_ | with_reducible refine wlen (Fix.now (by assumption)) ?_ | with_reducible refine wadd1 (by omega) ?_ | with_reducible refine wrem2 ?_ | with_reducible refine wshr (by omega) ?_ | with_reducible refine wlssT (by omega) ?_ | with_reducible refine wadd (by omega) ?_ | with_reducible refine wmul (by omega) ?_)
    refine next _ _ (Nat.lt_succ_self m1) ⟨k + 1, _, rfl, by omega, ?_⟩
    rw [keyF]; omega
  | zero =>
    have hkR : k = R * C := by omega
    subst hkR
    repeat (first | with_reducible refine wF ?_ | with_reducible refine wlen (Fix.now (by assumption)) ?_ | with_reducible refine wlssF (by omega) ?_ | with_reducible refine wadd (by omega) ?_ | with_reducible refine wsub (by omega) ?_ | with_reducible refine wmul (by omega) ?_ | rw [kLoop_exit] | rw [spec_l3Solve.after0_se0_0_1_2_3_4_5_6_15_16_33] | simp only [env_C, env_Y, env_g, env_lf, env_pick, env_alloc, env_box, env_build, env_buildSlice, env_load, env_store, env_ptr, env_bin, env_un, env_conv, env_make, env_slice, env_fieldAddr, env_field, env_indexAddr, env_index, env_extract, env_len, env_append, env_max, env_min, env_makeMap, env_lookup, env_update, env_clos, env_bstr, env_ext])
    have hkn : 2 * key + (t : Int) - 1 = ((keyN R C a b t : Nat) : Int) := by unfold keyN; omega
    rw [hkn]
    obtain ⟨hl, hT⟩ := hi.get hp ht
    refine wat ho.int hl fun ad had => ?_
    refine wbd had ?_
    have hwc := win_cases (R := R) (C := C) (a := a) (b := b) ht
    refine wgtr (fun e => ?_) (fun e => ?_)
    · have hT' : T[keyN R C a b t] = ((winN R C a b t : Nat) : Int) := by
        rcases hT with h0 | h0
        · omega
        · exact h0
      repeat (first | with_reducible refine wT ?_)
      refine wat ho.int hl fun ad had => ?_
      refine wbd had ?_
      rw [hT']
      repeat (first | with_reducible refine wrI ?_)
      exact W.ret ⟨rfl, T, ho, hi, Keep.refl _ _⟩
    · have e3 := other_W g lf n (by omega) h ht
      repeat (first | with_reducible refine wF ?_ | with_reducible refine wbd (by assumption) ?_ | dsimp only)
      obtain ⟨KEY, hKEY⟩ : ∃ x, x = keyN R C a b t := ⟨_, rfl⟩
      have hwo := win_open (t := t) j1 j2
      have fin : ∀ (bst : Int) (k : Nat) (x : PV) (T2 : List Int) (h2 : PHeap), bst = ((winN R C a b t : Nat) : Int) → OwnSl b0 h2 p T2 → Inv R C T2 → Keep b0 h h2 →
          W (spec_l3Solve.K1 (env g lf n) (kTop Tryd.prog Tryd.f74) (.exit 2) (spec_l3Solve.se2_0_1_2_3_4_5_6_15_17_18_73 (.int .i64 (R : Int)) (.int .i64 (C : Int)) pm (.int .i64 (a : Int)) (.int .i64 (b : Int)) (.int .i64 (t : Int)) p (.int .i64 (KEY : Int)) (.int .i64 bst) (.int .i64 (k : Int)) x h2))
            fun v h' => v = .int .i64 ((winN R C a b t : Nat) : Int) ∧ ∃ T', OwnSl b0 h' p T' ∧ Inv R C T' ∧ Keep b0 h h' := by
        intro bst k x T2 h2 hbst o2 i2 k2
        rw [spec_l3Solve.after1_se2_0_1_2_3_4_5_6_15_17_18_73]
        simp only [env_indexAddr, env_store]
        obtain ⟨hl2, _⟩ := i2.get hp ht
        rw [← hKEY] at hl2
        refine wst o2 hl2 fun h3 o3 k3 l3 a3 e4 => ?_
        repeat (first | with_reducible refine wrI ?_)
        rw [hbst] at o3 ⊢
        rw [hKEY] at o3
        exact W.ret ⟨rfl, _, o3, i2.put hp ht, k2.trans k3⟩
      rw [← hKEY]
      refine loopW (fun m s => ∃ (k : Nat) (bst : Int) (T2 : List Int) (h2 : PHeap), s = spec_l3Solve.st1 (.int .i64 (R : Int)) (.int .i64 (C : Int)) pm (.int .i64 (a : Int)) (.int .i64 (b : Int)) (.int .i64 (t : Int)) p (.int .i64 (KEY : Int)) (.int .i64 bst) (.int .i64 (k : Int)) h2 ∧ k + m = R * C ∧
        ((bst = ((3 - t : Nat) : Int) ∧ moveTo R C a b t k = false) ∨ (bst = (t : Int) ∧ moveB R C a b t = true)) ∧ OwnSl b0 h2 p T2 ∧ Inv R C T2 ∧ Keep b0 h h2) ?_ lf (R * C) _ (by omega) ⟨0, _, T, h, rfl, by omega, .inl ⟨rfl, rfl⟩, ho, hi, Keep.refl _ _⟩
      rintro n2 m2 s ⟨k, bst, T2, h2, rfl, hkm2, hbst, o2, i2, k2⟩ next2
      have hpm2 := hpm.keep k2
      rw [spec_l3Solve.body1_eq]
      unfold spec_l3Solve.body1
      simp only [env_C, env_pick, env_bin, env_len]
      rcases hbst with ⟨hb1, hb2⟩ | ⟨hb1, hb2⟩
      · cases m2 with
        | zero =>
          repeat (first | with_reducible refine wF ?_ | with_reducible refine wg0 rfl ?_ | with_reducible refine wpF ?_ | with_reducible refine wsm ?_ | with_reducible refine wlen (Fix.now (by assumption)) ?_ | with_reducible refine wlssF (by omega) ?_ | rw [kLoop_exit] | dsimp only)
          refine fin bst k _ T2 h2 ?_ o2 i2 k2
          have hkR : k = R * C := by omega
          subst hkR
          have : moveB R C a b t = false := hb2
          rw [hwo, this, hb1]; rfl
        | succ m2 =>
          have hkl : k < R * C := by omega
          have hne : ¬ bst = (t : Int) := by omega
          have hor : a ||| b < 2 ^ 9 := Nat.or_lt_two_pow l9.1 l9.2
          have hsl := shl_lt (show k < 9 by omega)
          have hto := moveTo_succ R C a b t k
          rw [hb2, Bool.false_or] at hto
          repeat (first | with_reducible refine wT ?_ | with_reducible refine wg1 rfl ?_ | with_reducible refine wpT ?_ | with_reducible refine wpv ?_ | with_reducible refine wsm ?_ | with_reducible refine wlen (Fix.now (by assumption)) ?_ | with_reducible refine wrem2 ?_ | with_reducible refine wshr (by omega) ?_ | with_reducible refine wor (by omega) (by omega) ?_ | with_reducible refine wlssT (by omega) ?_ | with_reducible refine wneqT (by omega) ?_ | dsimp only)
          refine weql (fun e => ?_) (fun e => ?_)
          · have hbit := (bit_iff (a ||| b) k).1 (by omega)
            rw [hbit] at hto
            repeat (first | with_reducible refine wT ?_ | with_reducible refine wadd1 (by omega) ?_)
            exact next2 _ _ (Nat.lt_succ_self m2) ⟨k + 1, bst, T2, h2, rfl, by omega, .inl ⟨hb1, hto⟩, o2, i2, k2⟩
          · have hbit : (a ||| b).testBit k = false := by
              cases e2 : (a ||| b).testBit k with
              | false => rfl
              | true => exact (e (by rw [(bit_iff (a ||| b) k).2 e2]; rfl)).elim
            have hfr := fr_put (t := t) hkl hbit
            have hpp := hp.put (t := t) hkl hbit
            rw [hbit, Bool.not_false, Bool.true_and] at hto
            have hor2 : a ||| 1 <<< k < 2 ^ 9 := Nat.or_lt_two_pow l9.1 hsl
            have hor3 : b ||| 1 <<< k < 2 ^ 9 := Nat.or_lt_two_pow l9.2 hsl
            rcases ht with rfl | rfl
            · repeat (first | with_reducible refine wT ?_ | with_reducible refine wF ?_ | with_reducible refine wshl (by omega) ?_ | with_reducible refine wor (by omega) (by omega) ?_ | with_reducible refine weqlT (by omega) ?_)
              refine wcall (ih (m - 1) (by omega) (a ||| 1 <<< k) b 2 n T2 p pm h2 b0 (Nat.le_sub_one_of_lt (Nat.lt_of_lt_of_le hfr hm)) hpp (.inr rfl) (by omega) hpm2 o2 (Nat.le_trans hb0 k2.1) i2) fun v h3 ⟨hv, T3, o3, i3, k3⟩ => ?_
              subst hv
              refine weql (fun e => ?_) (fun e => ?_)
              · repeat (first | with_reducible refine wT ?_ | with_reducible refine wadd1 (by omega) ?_ | dsimp only)
                have hw : winN R C (putA 1 k a) (putB 1 k b) (3 - 1) = 1 := Int.ofNat_inj.1 e
                rw [decide_eq_true hw] at hto
                exact next2 _ _ (Nat.lt_succ_self m2) ⟨k + 1, _, T3, h3, rfl, by omega, .inr ⟨rfl, moveTo_mono (by omega) hto⟩, o3, i3, k2.trans k3⟩
              · repeat (first | with_reducible refine wF ?_ | with_reducible refine wadd1 (by omega) ?_ | dsimp only)
                have hw : ¬ winN R C (putA 1 k a) (putB 1 k b) (3 - 1) = 1 := fun hh => e (congrArg Int.ofNat hh)
                rw [decide_eq_false hw] at hto
                exact next2 _ _ (Nat.lt_succ_self m2) ⟨k + 1, bst, T3, h3, rfl, by omega, .inl ⟨hb1, hto⟩, o3, i3, k2.trans k3⟩
            · repeat (first | with_reducible refine wF ?_ | with_reducible refine wshl (by omega) ?_ | with_reducible refine wor (by omega) (by omega) ?_ | with_reducible refine weqlF (by omega) ?_)
              refine wcall (ih (m - 1) (by omega) a (b ||| 1 <<< k) 1 n T2 p pm h2 b0 (Nat.le_sub_one_of_lt (Nat.lt_of_lt_of_le hfr hm)) hpp (.inl rfl) (by omega) hpm2 o2 (Nat.le_trans hb0 k2.1) i2) fun v h3 ⟨hv, T3, o3, i3, k3⟩ => ?_
              subst hv
              refine weql (fun e => ?_) (fun e => ?_)
              · repeat (first | with_reducible refine wT ?_ | with_reducible refine wadd1 (by omega) ?_ | dsimp only)
                have hw : winN R C (putA 2 k a) (putB 2 k b) (3 - 2) = 2 := Int.ofNat_inj.1 e
                rw [decide_eq_true hw] at hto
                exact next2 _ _ (Nat.lt_succ_self m2) ⟨k + 1, _, T3, h3, rfl, by omega, .inr ⟨rfl, moveTo_mono (by omega) hto⟩, o3, i3, k2.trans k3⟩
              · repeat (first | with_reducible refine wF ?_ | with_reducible refine wadd1 (by omega) ?_ | dsimp only)
                have hw : ¬ winN R C (putA 2 k a) (putB 2 k b) (3 - 2) = 2 := fun hh => e (congrArg Int.ofNat hh)
                rw [decide_eq_false hw] at hto
                exact next2 _ _ (Nat.lt_succ_self m2) ⟨k + 1, bst, T3, h3, rfl, by omega, .inl ⟨hb1, hto⟩, o3, i3, k2.trans k3⟩
      · have hfin : bst = ((winN R C a b t : Nat) : Int) := by rw [hwo, hb2, hb1]; rfl
        by_cases hkl : k < R * C
        · repeat (first | with_reducible refine wF ?_ | with_reducible refine wg1 rfl ?_ | with_reducible refine wpT ?_ | with_reducible refine wpv ?_ | with_reducible refine wsm ?_ | with_reducible refine wlen (Fix.now (by assumption)) ?_ | with_reducible refine wlssT (by omega) ?_ | with_reducible refine wneqF (by omega) ?_ | rw [kLoop_exit] | dsimp only)
          exact fin bst k _ T2 h2 hfin o2 i2 k2
        · repeat (first | with_reducible refine wF ?_ | with_reducible refine wg0 rfl ?_ | with_reducible refine wpF ?_ | with_reducible refine wsm ?_ | with_reducible refine wlen (Fix.now (by assumption)) ?_ | with_reducible refine wlssF (by omega) ?_ | rw [kLoop_exit] | dsimp only)
          exact fin bst k _ T2 h2 hfin o2 i2 k2

theorem table_W {R C : Nat} (hB : BoardOf R C) (hlf : 1000 < lf) (N : Nat) (hN : 1 ≤ N) (h : PHeap) :
    W (CL g lf N fn_spec_l3Table [.int .i64 ((R * C : Nat) : Int)] h) fun v h' => ∃ T, OwnSl h.length h' v T ∧ Inv R C T ∧ Keep h.length h h' := by
  obtain ⟨n, rfl⟩ : ∃ n, N = n + 1 := ⟨N - 1, by omega⟩
  have h9 := hB.2.2.2.2
  rw [spec_l3Table.call_eq]
  unfold spec_l3Table.main
  simp only [env_lf]
  refine loopW (fun m s => ∃ (k V : Nat), s = spec_l3Table.st0 (.int .i64 ((R * C : Nat) : Int)) (.int .i64 (V : Int)) (.int .i64 (k : Int)) h ∧ k + m = R * C ∧ V = 2 * 3 ^ k) ?_ lf (R * C) _ (by omega) ⟨0, 2, rfl, by omega, rfl⟩
  rintro n1 m1 s ⟨k, V, rfl, hkm, hV⟩ next
  have hp3 := pow3_le (show k ≤ 9 by omega)
  rw [spec_l3Table.body0_eq]
  unfold spec_l3Table.body0
  simp only [env_bin]
  cases m1 with
  | succ m1 =>
    repeat (first | with_reducible refine wT ?_ | with_reducible refine wadd1 (by omega) ?_ | with_reducible refine wlssT (by omega) ?_ | with_reducible refine wmul (by omega) ?_)
    refine next _ _ (Nat.lt_succ_self m1) ⟨k + 1, V * 3, rfl, by omega, by rw [Nat.pow_succ]; omega⟩
  | zero =>
    have hkR : k = R * C := by omega
    subst hkR
    subst hV
    repeat (first | with_reducible refine wF ?_ | with_reducible refine wlssF (by omega) ?_ | rw [kLoop_exit] | rw [spec_l3Table.after0_se0_0_3_4_7] | simp only [env_C, env_Y, env_g, env_lf, env_pick, env_alloc, env_box, env_build, env_buildSlice, env_load, env_store, env_ptr, env_bin, env_un, env_conv, env_make, env_slice, env_fieldAddr, env_field, env_indexAddr, env_index, env_extract, env_len, env_append, env_max, env_min, env_makeMap, env_lookup, env_update, env_clos, env_bstr, env_ext])
    refine wmake (by omega) fun p h1 o1 k1 => ?_
    repeat (first | with_reducible refine wresO (by assumption) ?_ | dsimp only)
    exact W.ret ⟨_, o1, Inv.new R C, k1⟩

theorem winner_W {R C : Nat} {xs : List Int} {p : PV} {h : PHeap} (hS : Sides (R : Int) (C : Int) R C xs) {T : Nat} (hT : T = 1 ∨ T = 2) (hp : IntSl .i64 h p xs) (hlf : 1000 < lf) (N : Nat) (hN : 16 ≤ N) :
    ∃ h', CL g lf N fn_spec_l3Winner [.int .i64 (R : Int), .int .i64 (C : Int), p, .int .i64 (T : Int)] h = some (.int .i64 ((winN R C (setL xs 1) (setL xs 2) T : Nat) : Int), h') ∧ Keep h.length h h' := by
  obtain ⟨n, rfl⟩ : ∃ n, N = n + 1 := ⟨N - 1, by omega⟩
  have hB := board_of_sides hS
  have hlen : xs.length = R * C := hS.2.2.2.2.2.2.2.1
  have h9 := hB.2.2.2.2
  have hml : (ints (masksN R C)).length = R * C := by rw [ints_length, masksN_length]
  have : W (CL g lf (n + 1) fn_spec_l3Winner [.int .i64 (R : Int), .int .i64 (C : Int), p, .int .i64 (T : Int)] h) fun v h' => v = .int .i64 ((winN R C (setL xs 1) (setL xs 2) T : Nat) : Int) ∧ Keep h.length h h' := by
    rw [spec_l3Winner.call_eq]
    unfold spec_l3Winner.main
    simp only [env_C, env_len]
    obtain ⟨pm, h1, e1, o1, k1⟩ := l2Masks_calls g lf hB n (by omega) (by omega) (h := h)
    have hp1 := hp.keep k1
    have e2 := l2Set_calls g lf 1 hp1 (by omega) n (by omega) (by omega)
    have e3 := l2Set_calls g lf 2 hp1 (by omega) n (by omega) (by omega)
    have hlm := o1.int.len'
    rw [hml] at hlm
    repeat (first | with_reducible refine wbd (by assumption) ?_ | dsimp only)
    refine wcall (table_W g lf hB hlf n (by omega) h1) fun q h2 ⟨T2, o2, i2, k2⟩ => ?_
    repeat (first | dsimp only)
    refine wcall (solve_W g lf hB hlf (R * C) (setL xs 1) (setL xs 2) T n T2 q pm h2 h1.length (fr_le _ _ _) (pos_sets hS) hT (by omega) (o1.int.fix.keep k2) o2 k2.1 i2) fun v h3 ⟨hv, T3, o3, i3, k3⟩ => ?_
    subst hv
    repeat (first | with_reducible refine wrI ?_ | dsimp only)
    exact W.ret ⟨rfl, k1.trans ((k2.trans k3).mono k1.1)⟩
  obtain ⟨_, h', e, rfl, k⟩ := this
  exact ⟨h', e, k⟩

end Go.Proofs.YtpaehbfknlpkbabDoor

/- The model's chapter 3, on: the winning cells and the moves played on. -/
set_option maxRecDepth 20000
namespace Go.Proofs.YtpaehbfknlpkbabDoor
open Go Go.Ip G

/-! ### two lists at once: one between two marks, that is written to, and one apart from it, that grows -/
def Apart (b0 b1 b2 : Nat) (h : PHeap) (q : PV) (ys : List Int) : Prop := ∃ n m, OwnB n m h q ys ∧ b0 ≤ n ∧ (m ≤ b1 ∨ b2 ≤ n) ∧ m ≤ h.length
theorem Apart.keep {b0 b1 b2 : Nat} {h h' : PHeap} {q : PV} {ys : List Int} (s : Apart b0 b1 b2 h q ys) (k : Keep h.length h h') : Apart b0 b1 b2 h' q ys := by
  obtain ⟨n, m, o, h1, h2, h3⟩ := s
  exact ⟨n, m, o.keep (k.mono h3), h1, h2, Nat.le_trans h3 k.1⟩
theorem Apart.only {b0 b1 b2 : Nat} {h h' : PHeap} {q : PV} {ys : List Int} (s : Apart b0 b1 b2 h q ys) (k : Only b1 b2 h h') : Apart b0 b1 b2 h' q ys := by
  obtain ⟨n, m, o, h1, h2, h3⟩ := s
  exact ⟨n, m, o.only k (h2.imp id id), h1, h2, by rw [k.1]; exact h3⟩
theorem Apart.sl {b0 b1 b2 : Nat} {h : PHeap} {q : PV} {ys : List Int} (s : Apart b0 b1 b2 h q ys) : OwnSl b0 h q ys := by
  obtain ⟨n, m, o, h1, h2, h3⟩ := s
  exact o.sl.mono h1

theorem OwnB.append {n m : Nat} {h : PHeap} {p : PV} {xs : List Int} (s : OwnB n m h p xs) (hn : n ≤ h.length) (x : Int) (hl : xs.length + 1 ≤ 2 ^ 36) :
    ∃ v p' h', buildSliceP Tryd.prog 23 1 [(0, .int .i64 x)] h = some v ∧ appendP Tryd.prog 23 23 p v.1 v.2 = some (p', h') ∧ OwnSl h.length h' p' (xs ++ [x]) ∧ Keep n h h' ∧
      ∀ a b r zs, OwnB a b h r zs → (b ≤ n ∨ m ≤ a) → OwnB a b h' r zs := by
  have hb : buildSliceP Tryd.prog 23 1 [(0, .int .i64 x)] h = some (.sl h.length 0 1, h ++ [.own 1 [.int .i64 x]]) := by
    simp [buildSliceP, tyElem, tySize, tyZero, repeatCells, fillP, PV.cells, setCells]
  have hsrc : srcP (h ++ [.own 1 [.int .i64 x]]) 1 (.sl h.length 0 1) = some (1, [.int .i64 x]) := by
    simp [srcP, cellsAt, PObj.get]
  rcases s with ⟨rfl, rfl⟩ | ⟨id, h1, h2, rfl, h3⟩
  · refine ⟨_, .sl (h.length + 1) 0 1, h ++ [.own 1 [.int .i64 x]] ++ [.own 1 [.int .i64 x]], hb, ?_, .inr ⟨h.length + 1, by omega, rfl, ?_⟩, ?_, ?_⟩
    · simp [appendP, tyElem, tySize, tySmall, hsrc]
    · rw [List.getElem?_append_right (by simp)]; simp
    · rw [List.append_assoc]; exact Keep.append _ _ _ hn
    · rintro a b r zs (⟨rfl, rfl⟩ | ⟨i, i1, i2, rfl, i3⟩) _
      · exact .inl ⟨rfl, rfl⟩
      · refine .inr ⟨i, i1, i2, rfl, ?_⟩
        have hi : i < h.length := (List.getElem?_eq_some_iff.1 i3).1
        rw [List.append_assoc, List.getElem?_append_left hi]; exact i3
  · have hid : id < h.length := (List.getElem?_eq_some_iff.1 h3).1
    have h3' : (h ++ [PObj.own 1 [.int .i64 x]])[id]? = some (.own 1 (xs.map (.int .i64))) := by rw [List.getElem?_append_left hid]; exact h3
    refine ⟨_, .sl (h.length + 1) 0 (xs.length + 1), ((h ++ [PObj.own 1 [.int .i64 x]]).set id .dead ++ [PObj.own 1 (xs.map (.int .i64) ++ [.int .i64 x])]), hb, ?_, .inr ⟨h.length + 1, by omega, by simp, ?_⟩, ?_, ?_⟩
    · simp [appendP, tyElem, tySize, tySmall, hsrc, h3', hl]
    · rw [List.getElem?_append_right (by simp)]; simp
    · exact ((Keep.append n h _ hn).trans (Keep.set n _ id .dead h1)).trans (Keep.append _ _ _ (by simp; omega))
    · rintro a b r zs (⟨rfl, rfl⟩ | ⟨i, i1, i2, rfl, i3⟩) hd
      · exact .inl ⟨rfl, rfl⟩
      · refine .inr ⟨i, i1, i2, rfl, ?_⟩
        have hi : i < h.length := (List.getElem?_eq_some_iff.1 i3).1
        rw [List.getElem?_append_left (by simp; omega), List.getElem?_set_ne (by omega), List.getElem?_append_left hi]; exact i3

section
variable {Q : PV → PHeap → Prop} {h : PHeap} {p r : PV} {xs zs : List Int} {b0 b1 b2 : Nat}
theorem wapA (s : Apart b0 b1 b2 h p xs) (o : OwnB b1 b2 h r zs) (hb0 : b0 ≤ h.length) (hb2 : b2 ≤ h.length) {x : Int} (hl : xs.length + 1 ≤ 2 ^ 36) {F : PV × PHeap → Res}
    (hf : ∀ p' h', Apart b0 b1 b2 h' p' (xs ++ [x]) → OwnB b1 b2 h' r zs → Keep b0 h h' → W (F (p', h')) Q) :
    W ((buildSliceP Tryd.prog 23 1 [(0, .int .i64 x)] h).bind fun v => (appendP Tryd.prog 23 23 p v.1 v.2).bind F) Q := by
  obtain ⟨n, m, on, h1, h2, h3⟩ := s
  rcases Nat.le_total n h.length with hn | hn
  · obtain ⟨v, p', h', e1, e2, o', k, fr⟩ := on.append hn x hl
    exact wbd e1 (wbd e2 (hf p' h' ⟨h.length, h'.length, o'.b, hb0, .inr hb2, Nat.le_refl _⟩ (fr _ _ _ _ o (by omega)) (k.mono h1)))
  · have o0 : OwnB h.length m h p xs := by
      rcases on with on | ⟨id, i1, i2, i3, i4⟩
      · exact .inl on
      · have := (List.getElem?_eq_some_iff.1 i4).1; omega
    obtain ⟨v, p', h', e1, e2, o', k, fr⟩ := o0.append (Nat.le_refl _) x hl
    exact wbd e1 (wbd e2 (hf p' h' ⟨h.length, h'.length, o'.b, hb0, .inr hb2, Nat.le_refl _⟩ (fr _ _ _ _ o (by omega)) (k.mono hb0)))
theorem wstB (s : OwnB b1 b2 h p xs) {i : Nat} (hi : i < xs.length) {x : Int} {F : PV → PHeap → Res}
    (hf : ∀ h', OwnB b1 b2 h' p (xs.set i x) → Only b1 b2 h h' → ∀ a, W (F a h') Q) :
    W ((indexAddrP Tryd.prog 23 p (.int .i64 (i : Int))).bind fun a => (storeP Tryd.prog 3 a (.int .i64 x) h).bind fun h' => F a h') Q := by
  obtain ⟨a, h', e1, e2, o, k⟩ := s.store hi x
  refine wbd e1 ?_
  show W ((storeP Tryd.prog 3 a (.int .i64 x) h).bind fun h' => F a h') Q
  exact wbd e2 (hf h' o k a)
/-- The first element is read. -/
theorem wat0 (s : IntSl .i64 h p xs) (hi : 0 < xs.length) {f : PV → Res} (hf : ∀ a, loadP Tryd.prog 3 a h = some (.int .i64 xs[0]) → W (f a) Q) : W ((indexAddrP Tryd.prog 23 p (.int .i64 0)).bind f) Q := wat s hi hf
end

/-! ### winning cells -/
def winFrom (r c : Int) (xs : List Int) (pl : Int) (k m : Nat) : List Int := ((List.range' k m).filter (winsB r c xs pl)).map fun k : Nat => (k : Int)
theorem winFrom_all (r c : Int) (xs : List Int) (pl : Int) : winFrom r c xs pl 0 xs.length = winCellsL r c xs pl := by unfold winFrom winCellsL; rw [List.range_eq_range']
theorem winFrom_succ (r c : Int) (xs : List Int) (pl : Int) (k m : Nat) : winFrom r c xs pl k (m + 1) = if winsB r c xs pl k = true then (k : Int) :: winFrom r c xs pl (k + 1) m else winFrom r c xs pl (k + 1) m := by
  unfold winFrom
  rw [List.range'_succ, List.filter_cons]
  split <;> rfl

variable (g : Nat → PV) (lf n : Nat)

theorem specWinningCells_calls {xs : List Int} {p : PV} {h : PHeap} (N : Nat) (hN : 18 ≤ N) (r c pl : Int) (hp : IntSl .i64 h p xs) (hl : xs.length ≤ 2 ^ 35) (hf : xs.length < lf) (hlf : 1000 < lf) :
    ∃ q h', CL g lf N fn_spec_WinningCells [.int .i64 r, .int .i64 c, p, .int .i64 pl] h = some (q, h') ∧ OwnSl h.length h' q (winCellsL r c xs pl) ∧ Keep h.length h h' := by
  obtain ⟨n, rfl⟩ : ∃ n, N = n + 1 := ⟨N - 1, by omega⟩
  suffices this : W (CL g lf (n + 1) fn_spec_WinningCells [.int .i64 r, .int .i64 c, p, .int .i64 pl] h) fun q h' => OwnSl h.length h' q (winCellsL r c xs pl) ∧ Keep h.length h h' by
    obtain ⟨q, h', e, o, k⟩ := this
    exact ⟨q, h', e, o, k⟩
  rw [spec_WinningCells.call_eq]
  unfold spec_WinningCells.main
  simp only [env_lf, env_buildSlice]
  refine wempty fun q h1 o1 k1 => ?_
  refine loopW (fun m s => ∃ (k : Nat) (ys : List Int) (q : PV) (h2 : PHeap), s = spec_WinningCells.st0 (.int .i64 r) (.int .i64 c) p (.int .i64 pl) q (.int .i64 (k : Int)) h2 ∧ k + m = xs.length ∧ ys.length ≤ k ∧ ys ++ winFrom r c xs pl k m = winCellsL r c xs pl ∧ OwnSl h.length h2 q ys ∧ Keep h.length h h2) ?_ lf xs.length _ hf ⟨0, [], q, h1, rfl, by omega, Nat.le_refl _, winFrom_all r c xs pl, o1, k1⟩
  rintro n1 m s ⟨k, ys, q, h2, rfl, hkm, hy, hL, o2, k2⟩ next
  have hp2 := hp.keep k2
  rw [spec_WinningCells.body0_eq]
  unfold spec_WinningCells.body0
  simp only [env_C, env_pick, env_buildSlice, env_bin, env_extract, env_len, env_append]
  cases m with
  | zero =>
    repeat (first | with_reducible refine wF ?_ | with_reducible refine wlen (by assumption) ?_ | with_reducible refine wlssF (by omega) ?_ | with_reducible refine wresO (by assumption) ?_ | rw [kLoop_exit] | rw [spec_WinningCells.after0_se0_0_1_2_3_9_10_17])
    have : winFrom r c xs pl k 0 = [] := rfl
    rw [this, List.append_nil] at hL
    exact W.ret ⟨hL ▸ o2, k2⟩
  | succ m =>
    have hk : k < xs.length := by omega
    rw [winFrom_succ] at hL
    obtain ⟨q3, h3, e3, o3, k3⟩ := specPlayed_calls g lf n (by omega) r c (k : Int) pl hp2 hl hf hlf
    cases hm : moveL r c xs (k : Int) pl with
    | false =>
      have hw : winsB r c xs pl k = false := by unfold winsB; rw [hm]; rfl
      rw [hw, if_neg (by decide)] at hL
      rw [hm] at e3
      repeat (first | with_reducible refine wT ?_ | with_reducible refine wF ?_ | with_reducible refine wg0 rfl ?_ | with_reducible refine wpF ?_ | with_reducible refine wsm ?_ | with_reducible refine wx0 ?_ | with_reducible refine wx1 ?_ | with_reducible refine wbd (by assumption) ?_ | with_reducible refine wlen (by assumption) ?_ | with_reducible refine wadd1 (by omega) ?_ | with_reducible refine wlssT (by omega) ?_ | dsimp only)
      exact next _ _ (Nat.lt_succ_self m) ⟨k + 1, ys, q, h3, rfl, by omega, by omega, hL, o2.keep k3, k2.trans (k3.mono k2.1)⟩
    | true =>
      obtain ⟨hb, hpl, hk0, hj1, hj2⟩ := moveL_iff.1 hm
      rw [hm] at e3
      rw [playedL_eq hm] at o3
      obtain ⟨R, C, hS⟩ := sides_of hb
      obtain ⟨P, rfl, hP⟩ := player_of hpl
      obtain ⟨rfl, rfl, _⟩ := id hS
      have hP' : 3 - P = 1 ∨ 3 - P = 2 := by omega
      have e4 := other_W g lf n (by omega) h3 hP
      have hS2 := sides_set hb hS (k := k) hP
      obtain ⟨h5, e5, k5⟩ := winner_W g lf hS2 hP' o3.int hlf n (by omega)
      have kk : Keep h.length h h5 := (k2.trans (k3.mono k2.1)).trans (k5.mono (Nat.le_trans k2.1 k3.1))
      have o5 := (o2.keep k3).keep k5
      have hv : winL (R : Int) (C : Int) (xs.set k (P : Int)) (3 - (P : Int)) = ((winN R C (setL (xs.set k (P : Int)) 1) (setL (xs.set k (P : Int)) 2) (3 - P) : Nat) : Int) := by
        rw [show (3 : Int) - (P : Int) = ((3 - P : Nat) : Int) by omega]; exact winL_eq (pos_set hb hP k) hP'
      have hw : winsB (R : Int) (C : Int) xs (P : Int) k = decide (((winN R C (setL (xs.set k (P : Int)) 1) (setL (xs.set k (P : Int)) 2) (3 - P) : Nat) : Int) = (P : Int)) := by unfold winsB; rw [hm, hv, Bool.true_and]
      rw [hw] at hL
      repeat (first | with_reducible refine wT ?_ | with_reducible refine wg1 rfl ?_ | with_reducible refine wpv ?_ | with_reducible refine wsm ?_ | with_reducible refine wx0 ?_ | with_reducible refine wx1 ?_ | with_reducible refine wbd (by assumption) ?_ | with_reducible refine wlen (by assumption) ?_ | with_reducible refine wlssT (by omega) ?_ | dsimp only)
      refine weql (fun e => ?_) (fun e => ?_)
      · rw [decide_eq_true e, if_pos rfl] at hL
        repeat (first | with_reducible refine wT ?_ | with_reducible refine wpT ?_ | (refine wap o5 kk.1 (by omega) fun p' h6 o6 k6 => ?_) | with_reducible refine wadd1 (by omega) ?_ | dsimp only)
        exact next _ _ (Nat.lt_succ_self m) ⟨k + 1, ys ++ [(k : Int)], p', h6, rfl, by omega, by simp; omega, by rw [List.append_assoc]; exact hL, o6, kk.trans k6⟩
      · rw [decide_eq_false e, if_neg (by decide)] at hL
        repeat (first | with_reducible refine wF ?_ | with_reducible refine wpT ?_ | with_reducible refine wadd1 (by omega) ?_)
        exact next _ _ (Nat.lt_succ_self m) ⟨k + 1, ys, q, h5, rfl, by omega, by omega, hL, o5, kk⟩

/-! ### played on -/
theorem goB_false {R C : Nat} {zs : List Int} {f : Nat} {T : Int} (h : goB (R : Int) (C : Int) zs = false) : lineF (R : Int) (C : Int) f zs T = [] := by
  cases f with
  | zero => rfl
  | succ f => rw [lineF, h]; rfl

theorem specLine_loop {R C : Nat} (hlf : 1000 < lf) (hn : 18 ≤ n) {L : List Int} (hL9 : L.length ≤ 9) {b0 b1 b2 : Nat} {h : PHeap} (hb01 : b0 ≤ b1) (hb12 : b1 ≤ b2) (h0 : b0 ≤ h.length) {zs : List Int} {T : Nat} {q pn : PV} {h1 : PHeap} (hb : posB (R : Int) (C : Int) zs = true) (hT : T = 1 ∨ T = 2) {F : Nat} (hF : pop (setL zs 0) ≤ F) (hF9 : F ≤ 9) (hL : lineF (R : Int) (C : Int) F zs (T : Int) = L)
    (oq : Apart b0 b1 b2 h1 q []) (on : OwnB b1 b2 h1 pn zs) (h2 : b2 ≤ h1.length) (k1 : Keep b0 h h1) :
    W (loopK (ev ((env g lf n).cx Tryd.prog spec_LinePlayed.kl) spec_LinePlayed.lp0) lf (spec_LinePlayed.st0 (.int .i64 (R : Int)) (.int .i64 (C : Int)) (.int .i64 (T : Int)) q pn h1) (spec_LinePlayed.K0 (env g lf n) (kTop Tryd.prog Tryd.f58)))
      fun v h' => OwnSl b0 h' v L ∧ Keep b0 h h' := by
  refine loopW (fun m s => ∃ (zs ys : List Int) (T : Nat) (q : PV) (h1 : PHeap), s = spec_LinePlayed.st0 (.int .i64 (R : Int)) (.int .i64 (C : Int)) (.int .i64 (T : Int)) q pn h1 ∧ posB (R : Int) (C : Int) zs = true ∧ (T = 1 ∨ T = 2) ∧ pop (setL zs 0) ≤ m ∧ ys ++ lineF (R : Int) (C : Int) m zs (T : Int) = L ∧
    Apart b0 b1 b2 h1 q ys ∧ OwnB b1 b2 h1 pn zs ∧ b2 ≤ h1.length ∧ Keep b0 h h1) ?_ lf F _ (by omega) ⟨zs, [], T, q, h1, rfl, hb, hT, hF, hL, oq, on, h2, k1⟩
  · clear hL on h2 k1 hb hT oq hF
    rintro n1 m s ⟨zs, ys, T, q, h1, rfl, hb, hT, hpop, hL, oq, on, h2, k1⟩ next
    obtain ⟨R', C', hS'⟩ := sides_of hb
    have hRR : R' = R := by have := hS'.1; omega
    have hCC : C' = C := by have := hS'.2.1; omega
    subst hRR hCC
    have hS := hS'
    have h9 : zs.length ≤ 9 := by have := hS.2.2.2.2.2.2.2.1; have := hS.2.2.2.2.2.2.1; omega
    have hs0 := set_lt9 hS 0
    have e1 := l2Set_calls g lf 0 on.int (by omega) n (by omega) (by omega)
    obtain ⟨h3, e3, k3⟩ := specJoins_calls g lf n (by omega) (R' : Int) (C' : Int) 1 on.int (by omega) (by omega) hlf
    have on3 := on.keep (k3.mono h2)
    obtain ⟨h4, e4, k4⟩ := specJoins_calls g lf n (by omega) (R' : Int) (C' : Int) 2 on3.int (by omega) (by omega) hlf
    have h23 : b2 ≤ h3.length := Nat.le_trans h2 k3.1
    have h24 : b2 ≤ h4.length := Nat.le_trans h23 k4.1
    have on4 := on3.keep (k4.mono h23)
    have oq4 := (oq.keep k3).keep k4
    have k13 : Keep b0 h h3 := k1.trans (k3.mono (by omega))
    have k14 : Keep b0 h h4 := k13.trans (k4.mono (by omega))
    rw [spec_LinePlayed.body0_eq]
    unfold spec_LinePlayed.body0
    simp only [env_C, env_pick, env_buildSlice, env_load, env_store, env_bin, env_un, env_indexAddr, env_len, env_append]
    cases hg : goB (R' : Int) (C' : Int) zs with
    | false =>
      rw [goB_false hg, List.append_nil] at hL
      unfold goB at hg
      by_cases hz : setL zs 0 = 0
      · repeat (first | with_reducible refine wF ?_ | with_reducible refine wg0 rfl ?_ | with_reducible refine wpF ?_ | with_reducible refine wsm ?_ | with_reducible refine wbd (by assumption) ?_ | with_reducible refine wneqF (by omega) ?_ | rw [kLoop_exit] | rw [spec_LinePlayed.after0_se0_0_1_3_9_10_44] | dsimp only)
        refine wresO oq.sl ?_
        exact W.ret ⟨hL ▸ oq.sl, k1⟩
      · rw [decide_eq_false hz, Bool.not_false, Bool.true_and] at hg
        cases hj1 : joinsL (R' : Int) (C' : Int) zs 1 with
        | true =>
          rw [hj1] at e3
          repeat (first | with_reducible refine wF ?_ | with_reducible refine wg1 rfl ?_ | with_reducible refine wg0 rfl ?_ | with_reducible refine wpT ?_ | with_reducible refine wpF ?_ | with_reducible refine wnT ?_ | with_reducible refine wpv ?_ | with_reducible refine wsm ?_ | with_reducible refine wbd (by assumption) ?_ | with_reducible refine wneqT (by omega) ?_ | rw [kLoop_exit] | rw [spec_LinePlayed.after0_se0_0_1_3_9_10_44] | dsimp only)
          refine wresO (oq.keep k3).sl ?_
          exact W.ret ⟨hL ▸ (oq.keep k3).sl, k13⟩
        | false =>
          rw [hj1, Bool.not_false, Bool.true_and] at hg
          have hj2 : joinsL (R' : Int) (C' : Int) zs 2 = true := by simpa using hg
          rw [hj1] at e3
          rw [hj2] at e4
          repeat (first | with_reducible refine wF ?_ | with_reducible refine wg1 rfl ?_ | with_reducible refine wpT ?_ | with_reducible refine wnT ?_ | with_reducible refine wnF ?_ | with_reducible refine wpv ?_ | with_reducible refine wsm ?_ | with_reducible refine wbd (by assumption) ?_ | with_reducible refine wneqT (by omega) ?_ | rw [kLoop_exit] | rw [spec_LinePlayed.after0_se0_0_1_3_9_10_44] | dsimp only)
          refine wresO oq4.sl ?_
          exact W.ret ⟨hL ▸ oq4.sl, k14⟩
    | true =>
      obtain ⟨hj1, hj2⟩ := (goB_iff hb hS).1 hg
      have hz : ¬ setL zs 0 = 0 := by unfold goB at hg; simp only [Bool.and_eq_true, Bool.not_eq_true', decide_eq_false_iff_not] at hg; exact hg.1.1
      rw [hj1] at e3
      rw [hj2] at e4
      obtain ⟨kf, lfree, hlist, hkf⟩ := listN_some hs0 hz
      obtain ⟨m, rfl⟩ : ∃ m', m = m' + 1 := ⟨m - 1, by have := pop_without hs0 hkf; omega⟩
      obtain ⟨V, hV, hV2⟩ := winL_cases hb hT
      obtain ⟨k, hk, hm, _⟩ := stepL_ok hb hS hT hV2 hg hV
      have hk0 := (moveL_iff.1 hm).2.2.1
      have hkl : k < zs.length := (List.getElem?_eq_some_iff.1 hk0).1
      rw [lineF, if_pos hg, hk] at hL
      have hyl : ys.length ≤ 9 := by rw [← hL] at hL9; simp at hL9; omega
      have e5 := l2Set_calls g lf 0 on4.int (by omega) n (by omega) (by omega)
      obtain ⟨qf, h6, e6, o6, k6⟩ := l2List_calls g lf hs0 n (by omega) (by omega) (h := h4)
      have h26 : b2 ≤ h6.length := Nat.le_trans h24 k6.1
      have on6 := on4.keep (k6.mono h24)
      have oq6 := oq4.keep k6
      obtain ⟨qw, h7, e7, o7, k7⟩ := specWinningCells_calls g lf n (by omega) (R' : Int) (C' : Int) (T : Int) on6.int (by omega) (by omega) hlf
      have h27 : b2 ≤ h7.length := Nat.le_trans h26 k7.1
      have on7 := on6.keep (k7.mono h26)
      have oq7 := oq6.keep k7
      have k17 : Keep b0 h h7 := (k14.trans (k6.mono (by omega))).trans (k7.mono (by omega))
      have hT' : 3 - T = 1 ∨ 3 - T = 2 := by omega
      have hpop2 : pop (setL (zs.set k (T : Int)) 0) ≤ m := by
        rw [(set_more hS hT hk0).2.1]
        have := pop_without hs0 (setL_bit.2 hk0)
        omega
      have fin : ∀ p' h8, Apart b0 b1 b2 h8 p' (ys ++ [(k : Int)]) → OwnB b1 b2 h8 pn zs → Keep b0 h7 h8 → ∀ h9 (a : PV), OwnB b1 b2 h9 pn (zs.set k (T : Int)) → Only b1 b2 h8 h9 → b2 ≤ h8.length →
          W (kLoop (ev ((env g lf n).cx Tryd.prog spec_LinePlayed.kl) spec_LinePlayed.lp0) n1 (spec_LinePlayed.K0 (env g lf n) (kTop Tryd.prog Tryd.f58)) .normal (spec_LinePlayed.st0 (.int .i64 (R' : Int)) (.int .i64 (C' : Int)) (.int .i64 ((3 - T : Nat) : Int)) p' pn h9)) fun v h' => OwnSl b0 h' v L ∧ Keep b0 h h' := by
        intro p' h8 a8 _ k8 h9 _ o9 on9 hb28
        refine next m _ (Nat.lt_succ_self m) ⟨zs.set k (T : Int), ys ++ [(k : Int)], 3 - T, p', h9, rfl, pos_set hb hT k, hT', hpop2, ?_, a8.only on9, o9, by rw [on9.1]; exact hb28, (k17.trans k8).trans (on9.keep.mono hb01)⟩
        rw [List.append_assoc, ← hL, show ((3 - T : Nat) : Int) = 3 - (T : Int) by omega]
        rfl
      have h8len : ∀ h8 : PHeap, Keep b0 h7 h8 → b2 ≤ h8.length := fun h8 k8 => Nat.le_trans h27 k8.1
      have e10 : ∀ h9, CL g lf n fn_spec_l1Other [.int .i64 (T : Int)] h9 = some (.int .i64 ((3 - T : Nat) : Int), h9) := fun h9 => other_W g lf n (by omega) h9 hT
      rw [hlist] at o6
      unfold stepL at hk
      rw [hlist] at hk
      cases hw : winCellsL (R' : Int) (C' : Int) zs (T : Int) with
      | nil =>
        rw [hw] at o7 hk
        have hkk : (kf : Int) = (k : Int) := hk
        have hkk2 : kf = k := by omega
        subst hkk2
        repeat (first | with_reducible refine wT ?_ | with_reducible refine wg1 rfl ?_ | with_reducible refine wpT ?_ | with_reducible refine wnF ?_ | with_reducible refine wpv ?_ | with_reducible refine wsm ?_ | with_reducible refine wbd (by assumption) ?_ | with_reducible refine wlen (OwnSl.int (by assumption)) ?_ | (with_reducible refine wat0 o6.int (by simp) fun a hl => ?_) | with_reducible refine wneqT (by omega) ?_ | dsimp only)
        refine wapA oq7 on7 (by omega) h27 (by omega) fun p' h8 a8 o8 k8 => ?_
        refine wstB o8 hkl fun h9 o9 on9 a9 => ?_
        refine wbd (e10 h9) ?_
        exact fin p' h8 a8 o8 k8 h9 a9 o9 on9 (h8len h8 k8)
      | cons w wl =>
        rw [hw] at o7 hk
        have hkk : w = (k : Int) := hk
        subst hkk
        have hlw : ((k : Int) :: wl).length = wl.length + 1 := rfl
        repeat (first | with_reducible refine wT ?_ | with_reducible refine wg1 rfl ?_ | with_reducible refine wpT ?_ | with_reducible refine wnF ?_ | with_reducible refine wpv ?_ | with_reducible refine wsm ?_ | with_reducible refine wbd (by assumption) ?_ | with_reducible refine wlen (OwnSl.int (by assumption)) ?_ | (with_reducible refine wat0 o6.int (by simp) fun a hl => ?_) | (with_reducible refine wat0 o7.int (by simp) fun a hl => ?_) | with_reducible refine wgtrT (by omega) ?_ | with_reducible refine wneqT (by omega) ?_ | dsimp only)
        refine wapA oq7 on7 (by omega) h27 (by omega) fun p' h8 a8 o8 k8 => ?_
        refine wstB o8 hkl fun h9 o9 on9 a9 => ?_
        refine wbd (e10 h9) ?_
        exact fin p' h8 a8 o8 k8 h9 a9 o9 on9 (h8len h8 k8)

theorem specLinePlayed_calls {xs : List Int} {p : PV} {h : PHeap} (N : Nat) (hN : 19 ≤ N) (r c t : Int) (hp : IntSl .i64 h p xs) (hl : xs.length ≤ 2 ^ 35) (hf : xs.length < lf) (hlf : 1000 < lf) :
    ∃ q h', CL g lf N fn_spec_LinePlayed [.int .i64 r, .int .i64 c, p, .int .i64 t] h = some (q, h') ∧ OwnSl h.length h' q (lineL r c xs t) ∧ Keep h.length h h' := by
  obtain ⟨n, rfl⟩ : ∃ n, N = n + 1 := ⟨N - 1, by omega⟩
  suffices this : W (CL g lf (n + 1) fn_spec_LinePlayed [.int .i64 r, .int .i64 c, p, .int .i64 t] h) fun q h' => OwnSl h.length h' q (lineL r c xs t) ∧ Keep h.length h h' by
    obtain ⟨q, h', e, o, k⟩ := this
    exact ⟨q, h', e, o, k⟩
  rw [spec_LinePlayed.call_eq]
  unfold spec_LinePlayed.main
  simp only [env_C, env_lf, env_pick, env_buildSlice, env_un, env_append]
  refine wempty fun q h1 o1 k1 => ?_
  have hp1 := hp.keep k1
  have hpos := specPositionOk_N g lf n (by omega) r c hp1 (by omega) hf
  have hin1 : CL g lf n fn_spec_l1In [.int .i64 t, .int .i64 1, .int .i64 2] h1 = some (.bool (playerB t), h1) := l1In_N g lf n (by omega) h1 t 1 2
  cases hb : posB r c xs with
  | false =>
    rw [hb] at hpos
    repeat (first | with_reducible refine wT ?_ | with_reducible refine wg0 rfl ?_ | with_reducible refine wpT ?_ | with_reducible refine wnF ?_ | with_reducible refine wsm ?_ | with_reducible refine wbd (by assumption) ?_ | with_reducible refine wresO (by assumption) ?_ | dsimp only)
    exact W.ret ⟨by rw [lineL_none (.inl hb)]; exact o1, k1⟩
  | true =>
    rw [hb] at hpos
    cases hpl : playerB t with
    | false =>
      rw [hpl] at hin1
      repeat (first | with_reducible refine wT ?_ | with_reducible refine wg1 rfl ?_ | with_reducible refine wpF ?_ | with_reducible refine wnT ?_ | with_reducible refine wnF ?_ | with_reducible refine wpv ?_ | with_reducible refine wsm ?_ | with_reducible refine wbd (by assumption) ?_ | with_reducible refine wresO (by assumption) ?_ | dsimp only)
      refine W.ret ⟨?_, k1⟩
      unfold lineL; rw [hpl, Bool.and_false, if_neg (by decide)]; exact o1
    | true =>
      rw [hpl] at hin1
      obtain ⟨R, C, hS⟩ := sides_of hb
      obtain ⟨T, rfl, hT⟩ := player_of hpl
      obtain ⟨rfl, rfl, _⟩ := id hS
      have hlen : xs.length = R * C := hS.2.2.2.2.2.2.2.1
      have h9 : xs.length ≤ 9 := by have := hS.2.2.2.2.2.2.1; omega
      have hpos1 : 1 ≤ xs.length := by rw [hlen]; exact Nat.mul_pos hS.2.2.1 hS.2.2.2.2.1
      obtain ⟨v, pn, h2, e2, e3, o2, k2⟩ := copy_all hp1 (by omega) (by omega)
      have hLe : lineF (R : Int) (C : Int) xs.length xs (T : Int) = lineL (R : Int) (C : Int) xs (T : Int) := by unfold lineL; rw [hb, hpl]; rfl
      have hll := lineL_length (R : Int) (C : Int) xs (T : Int)
      repeat (first | with_reducible refine wF ?_ | with_reducible refine wg1 rfl ?_ | with_reducible refine wpF ?_ | with_reducible refine wnT ?_ | with_reducible refine wpv ?_ | with_reducible refine wsm ?_ | with_reducible refine wbd (by assumption) ?_ | dsimp only)
      refine (specLine_loop g lf n hlf (by omega) (L := lineL (R : Int) (C : Int) xs (T : Int)) (by omega) (b0 := h.length) (b1 := h1.length) (b2 := h2.length) (h := h) k1.1 k2.1 (Nat.le_refl _) hb hT (F := xs.length) ?_ h9 hLe ⟨h.length, h1.length, o1.b.keep k2, Nat.le_refl _, .inl (Nat.le_refl _), k2.1⟩ o2.b (Nat.le_refl _) (k1.trans (k2.mono k1.1)))
      rw [hlen]
      exact pop_le (by omega) (set_lt hS 0)

end Go.Proofs.YtpaehbfknlpkbabDoor

/- Chapter 3's laws over what the program's functions are asked to compute: the draws, and the exact laws. -/
set_option maxRecDepth 20000
namespace Go.Proofs.YtpaehbfknlpkbabDoor
open Go Go.Ip G

def PlayedOk (g : Nat → PV) (lf : Nat) : Prop := ∀ (N : Nat), 40 ≤ N → ∀ (r c k pl : Int) {xs : List Int} {p : PV} {h : PHeap}, TabOk g h → IntSl .i64 h p xs → xs.length ≤ 2 ^ 35 → xs.length < lf →
  ∃ q h', CL g lf N fn_impl_Played [.int .i64 r, .int .i64 c, p, .int .i64 k, .int .i64 pl] h = some (.tup [q, .bool (moveL r c xs k pl)], h') ∧ OwnSl h.length h' q (playedL r c xs k pl) ∧ Keep h.length h h'
def WinnerOk (g : Nat → PV) (lf : Nat) : Prop := ∀ (N : Nat), 40 ≤ N → ∀ (r c t : Int) {xs : List Int} {p : PV} {h : PHeap}, TabOk g h → IntSl .i64 h p xs → xs.length ≤ 2 ^ 35 → xs.length < lf →
  ∃ h', CL g lf N fn_impl_WinnerOf [.int .i64 r, .int .i64 c, p, .int .i64 t] h = some (.int .i64 (winL r c xs t), h') ∧ Keep h.length h h'
def LineOk (g : Nat → PV) (lf : Nat) : Prop := ∀ (N : Nat), 40 ≤ N → ∀ (r c t : Int) {xs : List Int} {p : PV} {h : PHeap}, TabOk g h → IntSl .i64 h p xs → xs.length ≤ 2 ^ 35 → xs.length < lf →
  ∃ q h', CL g lf N fn_impl_LinePlayed [.int .i64 r, .int .i64 c, p, .int .i64 t] h = some (q, h') ∧ OwnSl h.length h' q (lineL r c xs t) ∧ Keep h.length h h'

theorem W.yes {x : Res} (hx : W x fun v _ => v = .bool true) : ∃ h', x = some (.bool true, h') := by
  obtain ⟨_, h', e, rfl⟩ := hx; exact ⟨h', e⟩
section
variable {Q : PV → PHeap → Prop} {b : Bool} {f : PV → Res}
theorem weqlBB (hf : W (f (.bool true)) Q) : W ((binP Tryd.prog .eql 4 (.bool b) (.bool b)).bind f) Q := wbd (by rw [eqlB]; simp) hf
end
theorem Fix.re {m : Nat} {h h' : PHeap} {p : PV} {xs : List Int} (s : Fix m h p xs) (k : Keep m h h') (hm : m ≤ h.length) : Fix h'.length h' p xs := fun h2 k2 => s h2 (k.trans (k2.mono (Nat.le_trans hm k.1)))
theorem tabF {g : Nat → PV} {h h1 : PHeap} (t : TabOk g h) (k : Keep h.length h h1) : ∀ h2, Keep h1.length h1 h2 → TabOk g h2 := fun _ k2 => (t.keep k).keep k2

variable (g : Nat → PV) (lf n : Nat)

/-! ### the draws -/
end Go.Proofs.YtpaehbfknlpkbabDoor

/- The laws of chapter 3 over what the program's functions are asked to compute: promises 16, 17, 18 and 21. -/
set_option maxRecDepth 20000
namespace Go.Proofs.YtpaehbfknlpkbabDoor
open Go Go.Ip G

theorem count_set {xs : List Int} {k : Nat} {w : Int} (hk : xs[k]? = some 0) (hw : w ≠ 0) : (xs.set k w).count 0 + 1 = xs.count 0 := by
  have hkl : k < xs.length := (List.getElem?_eq_some_iff.1 hk).1
  have hx : xs[k] = 0 := by rw [List.getElem?_eq_getElem hkl] at hk; exact Option.some.inj hk
  have hmem : 0 < xs.count 0 := List.count_pos_iff.2 (hx ▸ List.getElem_mem hkl)
  rw [List.count_set hkl, hx]
  simp [hw]
  omega

variable (g : Nat → PV) (lf n : Nat)

end Go.Proofs.YtpaehbfknlpkbabDoor

/- The laws of chapter 3 over what the program's functions are asked to compute: promises 18, 19, 20 and 22. -/
set_option maxRecDepth 20000
namespace Go.Proofs.YtpaehbfknlpkbabDoor
open Go Go.Ip G

theorem Fix.get {b : Nat} {h h' : PHeap} {p : PV} {xs : List Int} (s : Fix b h p xs) (k : Keep b h h') : IntSl .i64 h' p xs := s h' k
variable (g : Nat → PV) (lf n : Nat)

end Go.Proofs.YtpaehbfknlpkbabDoor

/- The boards that the model draws for chapters 4 and 5, and the draws. -/
set_option maxRecDepth 20000
namespace Go.Proofs.YtpaehbfknlpkbabDoor
open Go Go.Ip Go.RowKit G

theorem lit12 (h : PHeap) (a0 a1 a2 a3 a4 a5 a6 a7 a8 a9 a10 a11 : Nat) : buildSliceP Tryd.prog 92 12 [(0, .sl a0 0 2), (1, .sl a1 0 2), (2, .sl a2 0 2), (3, .sl a3 0 2), (4, .sl a4 0 2), (5, .sl a5 0 2), (6, .sl a6 0 2), (7, .sl a7 0 2), (8, .sl a8 0 2), (9, .sl a9 0 2), (10, .sl a10 0 2), (11, .sl a11 0 2)] h = some (.sl h.length 0 12, h ++ [.own 1 [.sl a0 0 2, .sl a1 0 2, .sl a2 0 2, .sl a3 0 2, .sl a4 0 2, .sl a5 0 2, .sl a6 0 2, .sl a7 0 2, .sl a8 0 2, .sl a9 0 2, .sl a10 0 2, .sl a11 0 2]]) := by kernel_rfl
def smallObjs (L : Nat) : List PObj := [.own 1 [.int .i64 1, .int .i64 1], .own 1 [.int .i64 1, .int .i64 2], .own 1 [.int .i64 2, .int .i64 1], .own 1 [.int .i64 2, .int .i64 2], .own 1 [.int .i64 2, .int .i64 3], .own 1 [.int .i64 3, .int .i64 2], .own 1 [.int .i64 1, .int .i64 3], .own 1 [.int .i64 1, .int .i64 4], .own 1 [.int .i64 4, .int .i64 1], .own 1 [.int .i64 2, .int .i64 2], .own 1 [.int .i64 0, .int .i64 1], .own 1 [.int .i64 3, .int .i64 4]] ++ [.own 1 [.sl (L + 0) 0 2, .sl (L + 1) 0 2, .sl (L + 2) 0 2, .sl (L + 3) 0 2, .sl (L + 4) 0 2, .sl (L + 5) 0 2, .sl (L + 6) 0 2, .sl (L + 7) 0 2, .sl (L + 8) 0 2, .sl (L + 9) 0 2, .sl (L + 10) 0 2, .sl (L + 11) 0 2]]

/-- The row v of the table, in whatever heap that holds the table still. -/
theorem small_row (h h' : PHeap) (id : Nat) (hid : id < h.length) (hk : KeepX id (h.length + 13) (h ++ smallObjs h.length) h') (v : Nat) (hv : v < 12) :
    ∃ r c, loadP Tryd.prog 23 (.ptr (h.length + 12) (0 + v)) h' = some (.sl (h.length + v) 0 2) ∧ cellsAt h' (h.length + v) = [.int .i64 r, .int .i64 c] ∧ -1 ≤ r ∧ r ≤ 5 ∧ -1 ≤ c ∧ c ≤ 5 := by
  have hb : h'[h.length + 12]? = some (.own 1 [.sl (h.length + 0) 0 2, .sl (h.length + 1) 0 2, .sl (h.length + 2) 0 2, .sl (h.length + 3) 0 2, .sl (h.length + 4) 0 2, .sl (h.length + 5) 0 2, .sl (h.length + 6) 0 2, .sl (h.length + 7) 0 2, .sl (h.length + 8) 0 2, .sl (h.length + 9) 0 2, .sl (h.length + 10) 0 2, .sl (h.length + 11) 0 2]) := by
    rw [hk.2 _ (by omega) (by omega), List.getElem?_append_right (by omega), Nat.add_sub_cancel_left]; rfl
  have hs : ∀ j, j < 12 → h'[h.length + j]? = (smallObjs h.length)[j]? := fun j hj => by
    rw [hk.2 _ (by omega) (by omega), List.getElem?_append_right (by omega), Nat.add_sub_cancel_left]
  have hrow := hs v (by omega)
  simp only [loadP, tyBoxAgg, cellsAt, hb, hrow]
  have : v = 0 ∨ v = 1 ∨ v = 2 ∨ v = 3 ∨ v = 4 ∨ v = 5 ∨ v = 6 ∨ v = 7 ∨ v = 8 ∨ v = 9 ∨ v = 10 ∨ v = 11 := by omega
  rcases this with rfl | rfl | rfl | rfl | rfl | rfl | rfl | rfl | rfl | rfl | rfl | rfl <;> exact ⟨_, _, rfl, rfl, by omega, by omega, by omega, by omega⟩

variable (g : Nat → PV) (lf n : Nat)

set_option maxHeartbeats 1000000 in
theorem small_calls {h : PHeap} {id m : Nat} (N : Nat) (hN : 3 ≤ N) (hr : Rd h id m) (hm : m ≤ 900000) :
    ∃ (r c : Int) (h' : PHeap), CL g lf N fn_spec_l20Small [.ptr id 0] h = some (.tup [.int .i64 r, .int .i64 c], h') ∧ Rd h' id (m + 1) ∧ KeepX id h.length h h' ∧ -1 ≤ r ∧ r ≤ 5 ∧ -1 ≤ c ∧ c ≤ 5 := by
  obtain ⟨n, rfl⟩ : ∃ n, N = n + 1 := ⟨N - 1, by omega⟩
  rw [spec_l20Small.call_eq]
  have hid := hr.lt
  have hrt := hr.keep (Keep.append h.length h (smallObjs h.length) (Nat.le_refl _)) hid
  obtain ⟨v, h1, e1, r1, o1, v0, v1, _⟩ := pick_calls g lf n (by omega) 12 hrt (by omega) (by omega)
  obtain ⟨V, rfl⟩ := Int.eq_ofNat_of_zero_le v0
  have hV : V < 12 := by have := v1 (by omega); omega
  have kx1 : KeepX id (h.length + 13) (h ++ smallObjs h.length) h1 := o1.x
  have kxb : KeepX id h.length h h1 := (Keep.append h.length h (smallObjs h.length) (Nat.le_refl _)).x.trans (kx1.mono (by omega))
  obtain ⟨r, c, l1, cc, hrc⟩ := small_row h h1 id hid kx1 V hV
  have hix : indexAddrP Tryd.prog 92 (.sl (h.length + 12) 0 12) (.int .i64 (V : Int)) = some (.ptr (h.length + 12) (0 + V)) := by
    have : (V : Int) < 12 := by omega
    simp [indexAddrP, tyBoxU, tyBoxSize, this]
  obtain ⟨g1, g2, g3, g4⟩ := row_get cc
  refine ⟨r, c, h1, ?_, r1, kxb, hrc⟩
  unfold spec_l20Small.main
  refine bd (v := (PV.sl (h.length + 0) 0 2, h ++ [PObj.own 1 [.int .i64 1, .int .i64 1]])) (by have := lit2 h [] 1 1; simpa using this) ?_
  refine bd (v := (PV.sl (h.length + 1) 0 2, h ++ [PObj.own 1 [.int .i64 1, .int .i64 1], .own 1 [.int .i64 1, .int .i64 2]])) (lit2 h [PObj.own 1 [.int .i64 1, .int .i64 1]] 1 2) ?_
  refine bd (v := (PV.sl (h.length + 2) 0 2, h ++ [PObj.own 1 [.int .i64 1, .int .i64 1], .own 1 [.int .i64 1, .int .i64 2], .own 1 [.int .i64 2, .int .i64 1]])) (lit2 h [PObj.own 1 [.int .i64 1, .int .i64 1], .own 1 [.int .i64 1, .int .i64 2]] 2 1) ?_
  refine bd (v := (PV.sl (h.length + 3) 0 2, h ++ [PObj.own 1 [.int .i64 1, .int .i64 1], .own 1 [.int .i64 1, .int .i64 2], .own 1 [.int .i64 2, .int .i64 1], .own 1 [.int .i64 2, .int .i64 2]])) (lit2 h [PObj.own 1 [.int .i64 1, .int .i64 1], .own 1 [.int .i64 1, .int .i64 2], .own 1 [.int .i64 2, .int .i64 1]] 2 2) ?_
  refine bd (v := (PV.sl (h.length + 4) 0 2, h ++ [PObj.own 1 [.int .i64 1, .int .i64 1], .own 1 [.int .i64 1, .int .i64 2], .own 1 [.int .i64 2, .int .i64 1], .own 1 [.int .i64 2, .int .i64 2], .own 1 [.int .i64 2, .int .i64 3]])) (lit2 h [PObj.own 1 [.int .i64 1, .int .i64 1], .own 1 [.int .i64 1, .int .i64 2], .own 1 [.int .i64 2, .int .i64 1], .own 1 [.int .i64 2, .int .i64 2]] 2 3) ?_
  refine bd (v := (PV.sl (h.length + 5) 0 2, h ++ [PObj.own 1 [.int .i64 1, .int .i64 1], .own 1 [.int .i64 1, .int .i64 2], .own 1 [.int .i64 2, .int .i64 1], .own 1 [.int .i64 2, .int .i64 2], .own 1 [.int .i64 2, .int .i64 3], .own 1 [.int .i64 3, .int .i64 2]])) (lit2 h [PObj.own 1 [.int .i64 1, .int .i64 1], .own 1 [.int .i64 1, .int .i64 2], .own 1 [.int .i64 2, .int .i64 1], .own 1 [.int .i64 2, .int .i64 2], .own 1 [.int .i64 2, .int .i64 3]] 3 2) ?_
  refine bd (v := (PV.sl (h.length + 6) 0 2, h ++ [PObj.own 1 [.int .i64 1, .int .i64 1], .own 1 [.int .i64 1, .int .i64 2], .own 1 [.int .i64 2, .int .i64 1], .own 1 [.int .i64 2, .int .i64 2], .own 1 [.int .i64 2, .int .i64 3], .own 1 [.int .i64 3, .int .i64 2], .own 1 [.int .i64 1, .int .i64 3]])) (lit2 h [PObj.own 1 [.int .i64 1, .int .i64 1], .own 1 [.int .i64 1, .int .i64 2], .own 1 [.int .i64 2, .int .i64 1], .own 1 [.int .i64 2, .int .i64 2], .own 1 [.int .i64 2, .int .i64 3], .own 1 [.int .i64 3, .int .i64 2]] 1 3) ?_
  refine bd (v := (PV.sl (h.length + 7) 0 2, h ++ [PObj.own 1 [.int .i64 1, .int .i64 1], .own 1 [.int .i64 1, .int .i64 2], .own 1 [.int .i64 2, .int .i64 1], .own 1 [.int .i64 2, .int .i64 2], .own 1 [.int .i64 2, .int .i64 3], .own 1 [.int .i64 3, .int .i64 2], .own 1 [.int .i64 1, .int .i64 3], .own 1 [.int .i64 1, .int .i64 4]])) (lit2 h [PObj.own 1 [.int .i64 1, .int .i64 1], .own 1 [.int .i64 1, .int .i64 2], .own 1 [.int .i64 2, .int .i64 1], .own 1 [.int .i64 2, .int .i64 2], .own 1 [.int .i64 2, .int .i64 3], .own 1 [.int .i64 3, .int .i64 2], .own 1 [.int .i64 1, .int .i64 3]] 1 4) ?_
  refine bd (v := (PV.sl (h.length + 8) 0 2, h ++ [PObj.own 1 [.int .i64 1, .int .i64 1], .own 1 [.int .i64 1, .int .i64 2], .own 1 [.int .i64 2, .int .i64 1], .own 1 [.int .i64 2, .int .i64 2], .own 1 [.int .i64 2, .int .i64 3], .own 1 [.int .i64 3, .int .i64 2], .own 1 [.int .i64 1, .int .i64 3], .own 1 [.int .i64 1, .int .i64 4], .own 1 [.int .i64 4, .int .i64 1]])) (lit2 h [PObj.own 1 [.int .i64 1, .int .i64 1], .own 1 [.int .i64 1, .int .i64 2], .own 1 [.int .i64 2, .int .i64 1], .own 1 [.int .i64 2, .int .i64 2], .own 1 [.int .i64 2, .int .i64 3], .own 1 [.int .i64 3, .int .i64 2], .own 1 [.int .i64 1, .int .i64 3], .own 1 [.int .i64 1, .int .i64 4]] 4 1) ?_
  refine bd (v := (PV.sl (h.length + 9) 0 2, h ++ [PObj.own 1 [.int .i64 1, .int .i64 1], .own 1 [.int .i64 1, .int .i64 2], .own 1 [.int .i64 2, .int .i64 1], .own 1 [.int .i64 2, .int .i64 2], .own 1 [.int .i64 2, .int .i64 3], .own 1 [.int .i64 3, .int .i64 2], .own 1 [.int .i64 1, .int .i64 3], .own 1 [.int .i64 1, .int .i64 4], .own 1 [.int .i64 4, .int .i64 1], .own 1 [.int .i64 2, .int .i64 2]])) (lit2 h [PObj.own 1 [.int .i64 1, .int .i64 1], .own 1 [.int .i64 1, .int .i64 2], .own 1 [.int .i64 2, .int .i64 1], .own 1 [.int .i64 2, .int .i64 2], .own 1 [.int .i64 2, .int .i64 3], .own 1 [.int .i64 3, .int .i64 2], .own 1 [.int .i64 1, .int .i64 3], .own 1 [.int .i64 1, .int .i64 4], .own 1 [.int .i64 4, .int .i64 1]] 2 2) ?_
  refine bd (v := (PV.sl (h.length + 10) 0 2, h ++ [PObj.own 1 [.int .i64 1, .int .i64 1], .own 1 [.int .i64 1, .int .i64 2], .own 1 [.int .i64 2, .int .i64 1], .own 1 [.int .i64 2, .int .i64 2], .own 1 [.int .i64 2, .int .i64 3], .own 1 [.int .i64 3, .int .i64 2], .own 1 [.int .i64 1, .int .i64 3], .own 1 [.int .i64 1, .int .i64 4], .own 1 [.int .i64 4, .int .i64 1], .own 1 [.int .i64 2, .int .i64 2], .own 1 [.int .i64 0, .int .i64 1]])) (lit2 h [PObj.own 1 [.int .i64 1, .int .i64 1], .own 1 [.int .i64 1, .int .i64 2], .own 1 [.int .i64 2, .int .i64 1], .own 1 [.int .i64 2, .int .i64 2], .own 1 [.int .i64 2, .int .i64 3], .own 1 [.int .i64 3, .int .i64 2], .own 1 [.int .i64 1, .int .i64 3], .own 1 [.int .i64 1, .int .i64 4], .own 1 [.int .i64 4, .int .i64 1], .own 1 [.int .i64 2, .int .i64 2]] 0 1) ?_
  refine bd (v := (PV.sl (h.length + 11) 0 2, h ++ [PObj.own 1 [.int .i64 1, .int .i64 1], .own 1 [.int .i64 1, .int .i64 2], .own 1 [.int .i64 2, .int .i64 1], .own 1 [.int .i64 2, .int .i64 2], .own 1 [.int .i64 2, .int .i64 3], .own 1 [.int .i64 3, .int .i64 2], .own 1 [.int .i64 1, .int .i64 3], .own 1 [.int .i64 1, .int .i64 4], .own 1 [.int .i64 4, .int .i64 1], .own 1 [.int .i64 2, .int .i64 2], .own 1 [.int .i64 0, .int .i64 1], .own 1 [.int .i64 3, .int .i64 4]])) (lit2 h [PObj.own 1 [.int .i64 1, .int .i64 1], .own 1 [.int .i64 1, .int .i64 2], .own 1 [.int .i64 2, .int .i64 1], .own 1 [.int .i64 2, .int .i64 2], .own 1 [.int .i64 2, .int .i64 3], .own 1 [.int .i64 3, .int .i64 2], .own 1 [.int .i64 1, .int .i64 3], .own 1 [.int .i64 1, .int .i64 4], .own 1 [.int .i64 4, .int .i64 1], .own 1 [.int .i64 2, .int .i64 2], .own 1 [.int .i64 0, .int .i64 1]] 3 4) ?_
  refine bd (v := (PV.sl (h.length + 12) 0 12, h ++ smallObjs h.length)) ?_ ?_
  · refine (lit12 _ _ _ _ _ _ _ _ _ _ _ _ _).trans ?_; simp [smallObjs]
  exact bd e1 (bd hix (bd l1 (bd g1 (bd g2 (bd g3 (bd g4 (bd res_int (bd res_int rfl))))))))

end Go.Proofs.YtpaehbfknlpkbabDoor

/- Stolen plans and pairs that answer: what chapter 4's functions tell, and what holds of it. No program text. -/
set_option maxRecDepth 20000
namespace Go.Proofs.YtpaehbfknlpkbabDoor
open Go Go.Ip G

/-! ### pairs -/
/-! ### pairs that are shared -/
/-! ### openings -/
def freeL (R C : Nat) : List Int := List.replicate (R * C) 0
theorem zero_not {R C P : Nat} : joinsN R C P 0 = false := by
  cases e : joinsN R C P 0 with
  | false => rfl
  | true =>
    obtain ⟨j, _, hr⟩ := (joins_iff (by decide)).1 e
    have := hr.inSet
    rw [Nat.zero_testBit] at this; cases this
end Go.Proofs.YtpaehbfknlpkbabDoor

/- Fillings: how many of them a player wins, which cells matter, and that stones on cells that do not matter change nothing. No program text. -/
set_option maxRecDepth 20000
namespace Go.Proofs.YtpaehbfknlpkbabDoor
open Go Go.Ip G

/-! ### counting over all fillings of some cells -/
/-! ### what a stone more is worth -/
/-! ### each filling is won by one -/
/-- A position whose free cells are those of a list. -/
structure Cover (R C a b : Nat) (l : List Nat) : Prop where
  pos : Pos R C a b
  nodup : l.Nodup
  free : ∀ j, j ∈ l ↔ j < R * C ∧ (a ||| b).testBit j = false
theorem Cover.put {R C a b c : Nat} {l : List Nat} (h : Cover R C a b (c :: l)) (t : Nat) : Cover R C (putA t c a) (putB t c b) l := by
  have hc := (h.free c).1 (List.mem_cons_self ..)
  have hnd := List.nodup_cons.1 h.nodup
  refine ⟨h.pos.put hc.1 hc.2, hnd.2, fun j => ?_⟩
  rw [put_bit, Bool.or_eq_false_iff, decide_eq_false_iff_not]
  constructor
  · intro hj
    have := (h.free j).1 (List.mem_cons_of_mem _ hj)
    exact ⟨this.1, this.2, fun e => hnd.1 (e ▸ hj)⟩
  · rintro ⟨h1, h2, h3⟩
    exact (List.mem_cons.1 ((h.free j).2 ⟨h1, h2⟩)).resolve_left h3
/-! ### the free cells of a set, as a list -/
/-! ### played to the last cell -/
end Go.Proofs.YtpaehbfknlpkbabDoor

/- What chapter 5's functions tell of a position (countL, pivotL, mattersL, deadL), and what holds of them. No program text. -/
set_option maxRecDepth 20000
namespace Go.Proofs.YtpaehbfknlpkbabDoor
open Go Go.Ip G

section
variable {R C : Nat} {xs : List Int} (hb : posB (R : Int) (C : Int) xs = true) (hS : Sides (R : Int) (C : Int) R C xs)
include hS
omit hS
include hb
include hS
/-! ### turned and mirrored -/
/-! ### dead cells -/
end

end Go.Proofs.YtpaehbfknlpkbabDoor

/- Carriers and threats: what holds of positions whose free cells outside a set are given to the other player. No program text. -/
set_option maxRecDepth 20000
namespace Go.Proofs.YtpaehbfknlpkbabDoor
open Go Go.Ip G

section
variable {R C : Nat} {xs ys : List Int} (hb : posB (R : Int) (C : Int) xs = true) (hb' : posB (R : Int) (C : Int) ys = true)
include hb
include hb'
end

section
variable {xs : List Int} {P : Nat} (hP : P = 1 ∨ P = 2)
include hP
end
section
variable {R C P : Nat} {xs : List Int} (hb : posB (R : Int) (C : Int) xs = true) (hP : P = 1 ∨ P = 2)
include hb hP
end

end Go.Proofs.YtpaehbfknlpkbabDoor

/- The program's sets of cells: the cells with a stone, the sides, growing and gaps, walked through with the rules of XW. -/
set_option maxRecDepth 20000
namespace Go.Proofs.YtpaehbfknlpkbabDoor
open Go Go.Ip G

/-! ### sets, without program text -/
theorem bit_of_ne {w : Nat} (h : w ≠ 0) : ∃ j, w.testBit j = true := by
  apply Classical.byContradiction
  intro hh
  refine h (Nat.eq_of_testBit_eq fun j => ?_)
  rw [Nat.zero_testBit]
  cases e : w.testBit j with
  | false => rfl
  | true => exact (hh ⟨j, e⟩).elim

theorem orAll_or : ∀ (L : List Int) (w : Nat), orAll w L = w ||| orAll 0 L
  | [], w => by simp [orAll]
  | e :: l, w => by rw [orAll, orAll_or l, orAll, orAll_or l (0 ||| _), Nat.zero_or, Nat.or_assoc]

theorem wide_step {R C S : Nat} (hB : BoardOf R C) : ∀ (m i w : Nat), i + m = R * C → wideFrom R C S m i w = stepFrom (2 ^ 9 - 1) S i ((masksN R C).drop i) w
  | 0, i, w, h => by rw [List.drop_eq_nil_of_le (by rw [masksN_length]; omega)]; rfl
  | m + 1, i, w, h => by
    have hi : i < (masksN R C).length := by rw [masksN_length]; omega
    have hm : (masksN R C)[i] = orAll 0 (nearN R C i) := by simp [masksN]
    have hlt : (masksN R C)[i] < 2 ^ 9 := masksN_lt hB _ (List.getElem_mem hi)
    have ha : (masksN R C)[i] &&& (2 ^ 9 - 1) = (masksN R C)[i] := by rw [Nat.and_two_pow_sub_one_eq_mod, Nat.mod_eq_of_lt hlt]
    rw [wideFrom, List.drop_eq_getElem_cons hi, stepFrom, Nat.and_one_is_mod, wide_step hB m (i + 1) _ (by omega), ha, hm]
    congr 1
    by_cases e : S >>> i % 2 = 1
    · rw [if_pos e, if_neg (by omega), orAll_or]
    · rw [if_neg e, if_pos (by omega)]

theorem wide_bit {R C S : Nat} (hB : BoardOf R C) (j : Nat) : (wideN R C S).testBit j = true ↔ S.testBit j = true ∨ ∃ k, S.testBit k = true ∧ Adj (masksN R C) k j := by
  unfold wideN
  rw [wide_step hB _ 0 S (by omega), List.drop_zero, stepFrom_bit]
  refine or_congr_right ⟨fun ⟨i, h1, h2, _⟩ => ⟨i, by simpa using h1, h2⟩, fun ⟨i, h1, h2⟩ => ⟨i, by simpa using h1, h2, ?_⟩⟩
  have := (adj_in hB h2).2
  have h9 := hB.2.2.2.2
  rw [Nat.testBit_two_pow_sub_one]; simp; omega

theorem wide_lt {R C S : Nat} (hB : BoardOf R C) (hS : S < 2 ^ 9) : wideN R C S < 2 ^ 9 := by
  obtain ⟨h1, h2, h3, h4, h9⟩ := hB; exact wideFrom_lt h1 h2 h3 h4 h9 _ _ _ (by omega) hS

theorem grown_is {M : List Nat} {S T X : Nat} (hS : S < 2 ^ 9) (hT : T < 2 ^ 9) (h0 : ∀ j, S.testBit j = true → X.testBit j = true) (hr : ∀ j, X.testBit j = true → Reach M (S ||| T) S j)
    (hc : ∀ k j, X.testBit k = true → Adj M k j → T.testBit j = true → X.testBit j = true) : X = growN M (S ||| T) S := by
  apply Nat.eq_of_testBit_eq
  intro j
  rw [Bool.eq_iff_iff, grow_bit (Nat.or_lt_two_pow hS hT)]
  refine ⟨hr j, fun h => ?_⟩
  induction h with
  | start h _ => exact h0 _ h
  | step _ ha hs ih =>
    rw [Nat.testBit_or, Bool.or_eq_true] at hs
    rcases hs with hs | hs
    · exact h0 _ hs
    · exact hc _ _ ih ha hs

theorem grown_in {M : List Nat} {own first : Nat} : growN M ((first &&& own) ||| own) (first &&& own) = growN M own first := by
  have : (first &&& own) ||| own = own := by
    apply Nat.eq_of_testBit_eq; intro j
    rw [Nat.testBit_or, Nat.testBit_and]; cases first.testBit j <;> cases own.testBit j <;> rfl
  rw [this]
  unfold growN
  rw [Nat.and_assoc, Nat.and_self]

theorem listN_filter (S : Nat) : listN S = ((List.range 9).filter S.testBit).map fun k : Nat => (k : Int) := by
  have : ∀ m k, listFrom S m k = ((List.range' k m).filter S.testBit).map fun k : Nat => (k : Int) := by
    intro m
    induction m with
    | zero => intro k; rfl
    | succ m ih =>
      intro k
      rw [listFrom, List.range'_succ, List.filter_cons, ih]
      by_cases e : S >>> k % 2 = 1
      · rw [if_pos e, if_pos ((bit_iff S k).1 e), List.map_cons]
      · rw [if_neg e, if_neg (fun h => e ((bit_iff S k).2 h))]
  rw [List.range_eq_range']; exact this 9 0

variable (g : Nat → PV) (lf n : Nat)

/-! ### the program -/
theorem playerOk_W (N : Nat) (hN : 1 ≤ N) (h : PHeap) (p : Int) : CL g lf N fn_impl_playerOk [.int .i64 p] h = some (.bool (playerB p), h) := by
  obtain ⟨n, rfl⟩ : ∃ n, N = n + 1 := ⟨N - 1, by omega⟩
  have : W (CL g lf (n + 1) fn_impl_playerOk [.int .i64 p] h) fun v h' => v = .bool (playerB p) ∧ h' = h := by
    rw [impl_playerOk.call_eq]
    unfold impl_playerOk.main
    simp only [env_pick, env_bin]
    refine weql (fun e => ?_) (fun e => ?_)
    · repeat (first | with_reducible refine wg0 rfl ?_ | with_reducible refine wpT ?_ | with_reducible refine wsm ?_ | with_reducible refine wrB ?_ | dsimp only)
      exact W.ret ⟨by subst e; rfl, rfl⟩
    · repeat (first | with_reducible refine wg1 rfl ?_ | with_reducible refine wpv ?_ | with_reducible refine wsm ?_ | dsimp only)
      refine weql (fun e2 => ?_) (fun e2 => ?_)
      · repeat (first | with_reducible refine wpF ?_ | with_reducible refine wrB ?_)
        exact W.ret ⟨by subst e2; rfl, rfl⟩
      · repeat (first | with_reducible refine wpF ?_ | with_reducible refine wrB ?_)
        exact W.ret ⟨by rw [show playerB p = false by unfold playerB; exact decide_eq_false (by omega)], rfl⟩
  obtain ⟨_, _, e, rfl, rfl⟩ := this
  exact e

theorem setOf_W {xs : List Int} {p : PV} {h : PHeap} (what : Int) (hp : IntSl .i64 h p xs) (hl : xs.length ≤ 20) (N : Nat) (hN : 1 ≤ N) (hlf : 1000 < lf) :
    CL g lf N fn_impl_setOf [p, .int .i64 what] h = some (.int .i64 (setL xs what : Int), h) := by
  obtain ⟨n, rfl⟩ : ∃ n, N = n + 1 := ⟨N - 1, by omega⟩
  have : W (CL g lf (n + 1) fn_impl_setOf [p, .int .i64 what] h) fun v h' => v = .int .i64 (setL xs what : Int) ∧ h' = h := by
    rw [impl_setOf.call_eq]
    unfold impl_setOf.main
    simp only [env_lf, env_len]
    repeat (first | with_reducible refine wlen (by assumption) ?_)
    refine loopW (fun m s => ∃ i w : Nat, s = impl_setOf.st0 (.int .i64 what) (.int .i64 (w : Int)) p (.int .i64 (xs.length : Int)) (.int .i64 (i : Int)) h ∧ i + m = xs.length ∧ w < 2 ^ 30 ∧ setFrom what i (xs.drop i) w = setL xs what) ?_ lf xs.length _ (by omega) ⟨0, 0, rfl, by omega, by decide, rfl⟩
    rintro n1 m s ⟨i, w, rfl, him, hw, hset⟩ next
    rw [impl_setOf.body0_eq]
    unfold impl_setOf.body0
    simp only [env_load, env_bin, env_indexAddr]
    by_cases hi : i < xs.length
    · have hdx : xs.drop i = xs[i] :: xs.drop (i + 1) := List.drop_eq_getElem_cons hi
      have h30 : 1 <<< i < 2 ^ 30 := by rw [Nat.one_shiftLeft]; exact Nat.pow_lt_pow_right (by decide) (by omega)
      rw [hdx, setFrom] at hset
      repeat (first | with_reducible refine wT ?_ | with_reducible refine wbd (by assumption) ?_ | (with_reducible refine wat hp hi fun a hl => ?_) | with_reducible refine wlssT (by omega) ?_)
      refine weql (fun e => ?_) (fun e => ?_)
      · repeat (first | with_reducible refine wT ?_ | with_reducible refine wadd1 (by omega) ?_ | with_reducible refine wshl (by omega) ?_ | with_reducible refine wor (by omega) (by omega) ?_)
        rw [if_pos e] at hset
        exact next _ _ (show m - 1 < m by omega) ⟨i + 1, _, rfl, by omega, Nat.or_lt_two_pow hw h30, hset⟩
      · repeat (first | with_reducible refine wF ?_ | with_reducible refine wadd1 (by omega) ?_)
        rw [if_neg e] at hset
        exact next _ _ (show m - 1 < m by omega) ⟨i + 1, _, rfl, by omega, hw, hset⟩
    · rw [List.drop_eq_nil_of_le (by omega), setFrom] at hset
      repeat (first | with_reducible refine wF ?_ | with_reducible refine wrI ?_ | with_reducible refine wlssF (by omega) ?_ | rw [kLoop_exit] | rw [impl_setOf.after0_se0_1_5_8_9_10_11])
      exact W.ret ⟨by rw [hset], rfl⟩
  obtain ⟨_, _, e, rfl, rfl⟩ := this
  exact e

theorem sidesOf_W {R C P : Nat} (hB : BoardOf R C) (hP : P = 1 ∨ P = 2) (N : Nat) (hN : 1 ≤ N) (hlf : 1000 < lf) (h : PHeap) :
    CL g lf N fn_impl_sidesOf [.int .i64 (R : Int), .int .i64 (C : Int), .int .i64 (P : Int)] h = some (.tup [.int .i64 (sideN R C P false : Int), .int .i64 (sideN R C P true : Int)], h) := by
  obtain ⟨n, rfl⟩ : ∃ n, N = n + 1 := ⟨N - 1, by omega⟩
  have : W (CL g lf (n + 1) fn_impl_sidesOf [.int .i64 (R : Int), .int .i64 (C : Int), .int .i64 (P : Int)] h) fun v h' => v = .tup [.int .i64 (sideN R C P false : Int), .int .i64 (sideN R C P true : Int)] ∧ h' = h := by
    obtain ⟨h1, h2, h3, h4, h9⟩ := id hB
    rw [impl_sidesOf.call_eq]
    unfold impl_sidesOf.main
    simp only [env_lf, env_bin]
    repeat (first | with_reducible refine wmulN (by omega) ?_)
    refine loopW (fun m s => ∃ i w1 w2 : Nat, s = impl_sidesOf.st0 (.int .i64 (R : Int)) (.int .i64 (C : Int)) (.int .i64 (P : Int)) (.int .i64 (w1 : Int)) (.int .i64 (w2 : Int)) (.int .i64 ((R * C : Nat) : Int)) (.int .i64 (i : Int)) h ∧ i + m = R * C ∧ w1 < 2 ^ 9 ∧ w2 < 2 ^ 9 ∧ sideFrom R C P false m i w1 = sideN R C P false ∧ sideFrom R C P true m i w2 = sideN R C P true) ?_ lf (R * C) _ (by omega) ⟨0, 0, 0, rfl, by omega, by decide, by decide, rfl, rfl⟩
    rintro n1 m s ⟨i, w1, w2, rfl, him, hw1, hw2, hs1, hs2⟩ next
    rw [impl_sidesOf.body0_eq]
    unfold impl_sidesOf.body0
    simp only [env_bin]
    cases m with
    | zero =>
      rw [sideFrom] at hs1 hs2
      repeat (first | with_reducible refine wF ?_ | with_reducible refine wrI ?_ | with_reducible refine wlssF (by omega) ?_ | rw [kLoop_exit] | rw [impl_sidesOf.after0_se0_0_1_2_8_9_15_16_17])
      exact W.ret ⟨by rw [hs1, hs2], rfl⟩
    | succ m =>
      have hsl := shl_lt (show i < 9 by omega)
      rw [sideFrom] at hs1 hs2
      simp only [cond_true, cond_false, decide_eq_true_eq] at hs1 hs2
      obtain ⟨x, hx⟩ : ∃ x, x = atSide C P i := ⟨_, rfl⟩
      obtain ⟨y, hy⟩ : ∃ y, y = endSide R C P := ⟨_, rfl⟩
      rw [← hx] at hs1 hs2
      rw [← hy] at hs2
      have l1 := Nat.or_lt_two_pow hw1 hsl
      have l2 := Nat.or_lt_two_pow hw2 hsl
      rcases hP with rfl | rfl
      · have hx' : x = i / C := hx
        have hy' : y = R - 1 := hy
        by_cases a0 : x = 0 <;> by_cases a1 : x = y 
        all_goals
          first | rw [if_pos a0] at hs1 | rw [if_neg a0] at hs1
          first | rw [if_pos a1] at hs2 | rw [if_neg a1] at hs2
          repeat (first | with_reducible refine wT ?_ | with_reducible refine wF ?_ | (rw [← hx', ← hy']) | with_reducible refine wadd1 (by omega) ?_ | with_reducible refine wsub1 (by omega) (by omega) ?_ | with_reducible refine wquoN (by omega) (by omega) ?_ | with_reducible refine wshl (by omega) ?_ | with_reducible refine wor (by omega) (by omega) ?_ | with_reducible refine wlssT (by omega) ?_ | with_reducible refine weqlT (by omega) ?_ | with_reducible refine weqlF (by omega) ?_)
          first
            | exact next _ _ (Nat.lt_succ_self m) ⟨i + 1, _, _, rfl, by omega, l1, l2, hs1, hs2⟩
            | exact next _ _ (Nat.lt_succ_self m) ⟨i + 1, _, _, rfl, by omega, hw1, l2, hs1, hs2⟩
            | exact next _ _ (Nat.lt_succ_self m) ⟨i + 1, _, _, rfl, by omega, l1, hw2, hs1, hs2⟩
            | exact next _ _ (Nat.lt_succ_self m) ⟨i + 1, _, _, rfl, by omega, hw1, hw2, hs1, hs2⟩
      · have hx' : x = i % C := hx
        have hy' : y = C - 1 := hy
        by_cases a0 : x = 0 <;> by_cases a1 : x = y 
        all_goals
          first | rw [if_pos a0] at hs1 | rw [if_neg a0] at hs1
          first | rw [if_pos a1] at hs2 | rw [if_neg a1] at hs2
          repeat (first | with_reducible refine wT ?_ | with_reducible refine wF ?_ | (rw [← hx', ← hy']) | with_reducible refine wadd1 (by omega) ?_ | with_reducible refine wsub1 (by omega) (by omega) ?_ | with_reducible refine wquoN (by omega) (by omega) ?_ | with_reducible refine wremN (by omega) ?_ | with_reducible refine wshl (by omega) ?_ | with_reducible refine wor (by omega) (by omega) ?_ | with_reducible refine wlssT (by omega) ?_ | with_reducible refine weqlT (by omega) ?_ | with_reducible refine weqlF (by omega) ?_)
          first
            | exact next _ _ (Nat.lt_succ_self m) ⟨i + 1, _, _, rfl, by omega, l1, l2, hs1, hs2⟩
            | exact next _ _ (Nat.lt_succ_self m) ⟨i + 1, _, _, rfl, by omega, hw1, l2, hs1, hs2⟩
            | exact next _ _ (Nat.lt_succ_self m) ⟨i + 1, _, _, rfl, by omega, l1, hw2, hs1, hs2⟩
            | exact next _ _ (Nat.lt_succ_self m) ⟨i + 1, _, _, rfl, by omega, hw1, hw2, hs1, hs2⟩
  obtain ⟨_, _, e, rfl, rfl⟩ := this
  exact e

theorem grown_W {R C S T : Nat} (hB : BoardOf R C) (hS : S < 2 ^ 9) (hT : T < 2 ^ 9) (N : Nat) (hN : 6 ≤ N) (hlf : 1000 < lf) {h : PHeap} (ht : Tab g h) :
    ∃ h', CL g lf N fn_impl_grown [.int .i64 (R : Int), .int .i64 (C : Int), .int .i64 (S : Int), .int .i64 (T : Int)] h = some (.int .i64 (growN (masksN R C) (S ||| T) S : Int), h') ∧ Keep h.length h h' := by
  obtain ⟨n, rfl⟩ : ∃ n, N = n + 1 := ⟨N - 1, by omega⟩
  have : W (CL g lf (n + 1) fn_impl_grown [.int .i64 (R : Int), .int .i64 (C : Int), .int .i64 (S : Int), .int .i64 (T : Int)] h) fun v h' => v = .int .i64 (growN (masksN R C) (S ||| T) S : Int) ∧ Keep h.length h h' := by
    rw [impl_grown.call_eq]
    unfold impl_grown.main
    simp only [env_lf]
    refine loopW (fun m s => ∃ (X w : Nat) (h1 : PHeap), s = impl_grown.st0 (.int .i64 (R : Int)) (.int .i64 (C : Int)) (.int .i64 (X : Int)) (.int .i64 (T : Int)) (.int .i64 (w : Int)) h1 ∧ Keep h.length h h1 ∧ Tab g h1 ∧ X < 2 ^ 9 ∧ (∀ j, w.testBit j = true → X.testBit j = true) ∧
      (∀ j, S.testBit j = true → X.testBit j = true) ∧ (∀ j, X.testBit j = true → Reach (masksN R C) (S ||| T) S j) ∧ (∀ k j, X.testBit k = true → w.testBit k = false → Adj (masksN R C) k j → T.testBit j = true → X.testBit j = true) ∧ m = (512 - X) + (if w = 0 then 0 else 1)) ?_ lf (512 - S + (if S = 0 then 0 else 1)) _ (by split <;> omega)
      ⟨S, S, h, rfl, Keep.refl _ _, ht, hS, fun _ h => h, fun _ h => h, fun j hj => .start hj (by rw [Nat.testBit_or, hj]; rfl), fun k j h1 h2 _ _ => (by rw [h1] at h2; cases h2), rfl⟩
    rintro n1 m s ⟨X, w, h1, rfl, k1, t1, hX, hw, hSX, hXr, hc, hm⟩ next
    rw [impl_grown.body0_eq]
    unfold impl_grown.body0
    simp only [env_C, env_bin]
    by_cases e : w = 0
    · repeat (first | with_reducible refine wF ?_ | with_reducible refine wrI ?_ | with_reducible refine wneqF (by omega) ?_ | rw [kLoop_exit] | rw [impl_grown.after0_se0_0_1_2_3_9_12])
      refine W.ret ⟨?_, k1⟩
      rw [grown_is hS hT hSX hXr fun k j h1 h2 h3 => hc k j h1 (by rw [e, Nat.zero_testBit]) h2 h3]
    · have hw9 : w < 2 ^ 9 := Nat.lt_of_le_of_lt (sub_le hw) hX
      obtain ⟨b1, b2, b3, b4, b5⟩ := id hB
      obtain ⟨h2, e2, k2⟩ := withNear_calls g lf b1 b2 b3 b4 b5 hw9 n (by omega) (by omega) t1
      have hwl := wide_lt hB hw9
      have hal : wideN R C w &&& T < 2 ^ 9 := Nat.and_lt_two_pow _ hT
      have hml : minusN (wideN R C w &&& T) X < 2 ^ 9 := minusN_lt hal
      repeat (first | with_reducible refine wT ?_ | with_reducible refine wbd (by assumption) ?_ | with_reducible refine wand (by omega) (by omega) ?_ | with_reducible refine wor (by omega) (by omega) ?_ | with_reducible refine wandNot (by omega) (by omega) ?_ | with_reducible refine wneqT (by omega) ?_ | dsimp only)
      obtain ⟨w', hw'⟩ : ∃ w', w' = minusN (wideN R C w &&& T) X := ⟨_, rfl⟩
      have hb : ∀ j, w'.testBit j = true ↔ (w.testBit j = true ∨ ∃ k, w.testBit k = true ∧ Adj (masksN R C) k j) ∧ T.testBit j = true ∧ X.testBit j = false := fun j => by
        rw [hw', minusN_bit, Nat.testBit_and, ← wide_bit hB]; cases (wideN R C w).testBit j <;> cases T.testBit j <;> cases X.testBit j <;> simp
      rw [← hw'] at hml ⊢
      have hor : X ||| w' < 2 ^ 9 := Nat.or_lt_two_pow hX hml
      have hle : X ≤ X ||| w' := Nat.left_le_or
      have hne : w' ≠ 0 → X ≠ X ||| w' := fun hz he => by
        obtain ⟨j, hj⟩ := bit_of_ne hz
        have h1 := ((hb j).1 hj).2.2
        rw [he, Nat.testBit_or, hj, Bool.or_true] at h1; cases h1
      refine next _ _ ?_ ⟨X ||| w', w', h2, rfl, k1.trans (k2.mono k1.1), t1.keep k2, hor, fun j hj => by rw [Nat.testBit_or, hj, Bool.or_true], fun j hj => by rw [Nat.testBit_or, hSX j hj, Bool.true_or], ?_, ?_, rfl⟩
      · rw [hm, if_neg e]
        by_cases e' : w' = 0
        · rw [if_pos e']; omega
        · rw [if_neg e']; have := hne e'; omega
      · intro j hj
        rw [Nat.testBit_or, Bool.or_eq_true] at hj
        rcases hj with hj | hj
        · exact hXr j hj
        · obtain ⟨h1 | ⟨k, h1, h2⟩, h3, h4⟩ := (hb j).1 hj
          · rw [hw j h1] at h4; cases h4
          · exact .step (hXr k (hw k h1)) h2 (by rw [Nat.testBit_or, h3, Bool.or_true])
      · intro k j h1 h2 h3 h4
        rw [Nat.testBit_or, h2, Bool.or_false] at h1
        rw [Nat.testBit_or]
        by_cases hk : w.testBit k = true
        · cases hx : X.testBit j with
          | true => rfl
          | false => rw [(hb j).2 ⟨.inr ⟨k, hk, h3⟩, h4, hx⟩]; rfl
        · rw [hc k j h1 (by simpa using hk) h3 h4]; rfl
  obtain ⟨_, h', e, rfl, k⟩ := this
  exact ⟨h', e, k⟩

end Go.Proofs.YtpaehbfknlpkbabDoor

/- The model's chapters 4 and 5: what Openings, PairCell, PairFilled, MattersAt, DeadCells, FillCount and PivotCount of it compute. -/
set_option maxRecDepth 20000
namespace Go.Proofs.YtpaehbfknlpkbabDoor
open Go Go.Ip G

section
variable {Q : PV → PHeap → Prop} {x y : Nat} {f : PV → Res}
end

variable (g : Nat → PV) (lf n : Nat)

/-! ### pairs -/
theorem boardB_of {r c : Int} (h : boardB r c = true) : ∃ R C : Nat, r = (R : Int) ∧ c = (C : Int) ∧ BoardOf R C := by
  unfold boardB at h
  have := of_decide_eq_true h
  obtain ⟨R, rfl⟩ := Int.eq_ofNat_of_zero_le (show 0 ≤ r by omega)
  obtain ⟨C, rfl⟩ := Int.eq_ofNat_of_zero_le (show 0 ≤ c by omega)
  have h9 := this.2.2.2.2
  rw [← Int.natCast_mul] at h9
  exact ⟨R, C, rfl, rfl, by omega, by omega, by omega, by omega, by omega⟩
/-! ### fillings -/
/-! ### what one cell decides -/
end Go.Proofs.YtpaehbfknlpkbabDoor

/- The laws of chapter 4 over what the program's functions are asked to compute. -/
set_option maxRecDepth 20000
namespace Go.Proofs.YtpaehbfknlpkbabDoor
open Go Go.Ip G

variable (g : Nat → PV) (lf n : Nat)

/-! ### the exact laws -/
end Go.Proofs.YtpaehbfknlpkbabDoor

/- Texts: rules to walk through what joins, compares, cuts and reads them; slices of texts on the heap. -/
set_option maxRecDepth 20000
namespace Go.Proofs.YtpaehbfknlpkbabDoor
open Go Go.Ip G

section
variable {Q : PV → PHeap → Prop} {P : Program} {t : TypeId} {f : PV → Res} {a b : List UInt8}
end

/-! ### types -/
section
variable {Q : PV → PHeap → Prop} {f : PV → Res} {a : List UInt8} {h : PHeap}
end

/-! ### a slice of bytes, made into a text -/
/-! ### slices of texts -/
def OwnT (n : Nat) (h : PHeap) (p : PV) (ss : List (List UInt8)) : Prop := (p = .nilsl ∧ ss = []) ∨ ∃ id, n ≤ id ∧ p = .sl id 0 ss.length ∧ h[id]? = some (.own 1 (ss.map fun s => .str (sB s)))
theorem OwnT.nil (n : Nat) (h : PHeap) : OwnT n h .nilsl [] := .inl ⟨rfl, rfl⟩
theorem OwnT.mono {m n : Nat} {h : PHeap} {p : PV} {ss : List (List UInt8)} (s : OwnT m h p ss) (hm : n ≤ m) : OwnT n h p ss := by
  rcases s with s | ⟨id, h1, h2, h3⟩
  · exact .inl s
  · exact .inr ⟨id, Nat.le_trans hm h1, h2, h3⟩
theorem OwnT.keep {n : Nat} {h h' : PHeap} {p : PV} {ss : List (List UInt8)} (s : OwnT n h p ss) (k : Keep h.length h h') : OwnT n h' p ss := by
  rcases s with s | ⟨id, h1, h2, h3⟩
  · exact .inl s
  · exact .inr ⟨id, h1, h2, by rw [k.2 id (List.getElem?_eq_some_iff.1 h3).1]; exact h3⟩
theorem tyT1 : sizeT Tryd.prog 9 = some 1 := by kernel_rfl
theorem tyTA : isAggT Tryd.prog 9 = some false := by kernel_rfl
theorem tyTU : Tryd.prog.underlying 57 = some (.slice 9) := by kernel_rfl
section
variable {Q : PV → PHeap → Prop} {h : PHeap}
theorem OwnT.len {n : Nat} {p : PV} {ss : List (List UInt8)} (s : OwnT n h p ss) : lenP Tryd.prog 57 p = some (.int .i64 (ss.length : Int)) := by
  rcases s with ⟨rfl, rfl⟩ | ⟨id, _, rfl, _⟩ <;> simp [lenP, tyTU]
end

end Go.Proofs.YtpaehbfknlpkbabDoor

/- Records of play: moves one after the other; what stands at the end, which moves are slips, the best record; turned records. -/
set_option maxRecDepth 20000
namespace Go.Proofs.YtpaehbfknlpkbabDoor
open Go Go.Ip

theorem boardB_nat {r c : Int} (h : boardB r c = true) : ∃ R C : Nat, r = (R : Int) ∧ c = (C : Int) ∧ BoardOf R C := by
  unfold boardB at h
  have := of_decide_eq_true h
  obtain ⟨R, rfl⟩ := Int.eq_ofNat_of_zero_le (show 0 ≤ r by omega)
  obtain ⟨C, rfl⟩ := Int.eq_ofNat_of_zero_le (show 0 ≤ c by omega)
  have h9 : ((R * C : Nat) : Int) ≤ 9 := by rw [Int.natCast_mul]; exact this.2.2.2.2
  exact ⟨R, C, rfl, rfl, by omega, by omega, by omega, by omega, by omega⟩

/-- The position behind moves, if all of them may be made. -/
def playTo (r c : Int) : List Int → Int → List Int → Option (List Int)
  | xs, _, [] => some xs
  | xs, t, m :: ms => if moveL r c xs m t = true then playTo r c (xs.set m.toNat t) (3 - t) ms else none
def startL (r c : Int) : List Int := List.replicate (r * c).toNat 0
def recB (r c : Int) (ms : List Int) : Bool := boardB r c && (playTo r c (startL r c) 1 ms).isSome
/-- Who is to move behind so many moves. -/
def turnAt (t : Int) (n : Nat) : Int := if n % 2 = 0 then t else 3 - t
def recEnd (r c : Int) (ms : List Int) : List Int := if boardB r c = true then (playTo r c (startL r c) 1 ms).getD [] else []
def recTurn (r c : Int) (ms : List Int) : Int := if recB r c ms = true then turnAt 1 ms.length else 0

theorem turnAt_succ (t : Int) (n : Nat) : turnAt (3 - t) n = turnAt t (n + 1) := by
  unfold turnAt
  rcases Nat.mod_two_eq_zero_or_one n with h | h
  · rw [if_pos h, if_neg (by omega)]
  · rw [if_neg (by omega), if_pos (by omega)]; omega
theorem turnAt_player {t : Int} (ht : t = 1 ∨ t = 2) (n : Nat) : turnAt t n = 1 ∨ turnAt t n = 2 := by
  unfold turnAt; split <;> omega
theorem playTo_append (r c : Int) : ∀ (ms ns : List Int) (xs : List Int) (t : Int), playTo r c xs t (ms ++ ns) = (playTo r c xs t ms).bind fun ys => playTo r c ys (turnAt t ms.length) ns
  | [], ns, xs, t => by simp [playTo, turnAt]
  | m :: ms, ns, xs, t => by
    simp only [List.cons_append, playTo]
    by_cases h : moveL r c xs m t = true
    · rw [if_pos h, if_pos h, playTo_append r c ms ns, turnAt_succ]; rfl
    · rw [if_neg h, if_neg h]; rfl

/-- A move that may be made: its cell. -/
theorem move_cell {r c : Int} {xs : List Int} {m t : Int} (h : moveL r c xs m t = true) : ∃ k : Nat, m = (k : Int) ∧ xs[k]? = some 0 ∧ k < xs.length := by
  obtain ⟨k, rfl, hk⟩ := moveL_cell h
  exact ⟨k, rfl, (moveL_iff.1 h).2.2.1, hk⟩

theorem playTo_length (r c : Int) : ∀ (ms : List Int) (xs : List Int) (t : Int) (ys : List Int), playTo r c xs t ms = some ys → ys.length = xs.length
  | [], xs, t, ys, h => by cases h; rfl
  | m :: ms, xs, t, ys, h => by
    simp only [playTo] at h
    split at h
    · rw [playTo_length r c ms _ _ _ h, List.length_set]
    · cases h
theorem playTo_pos {r c : Int} : ∀ (ms : List Int) (xs : List Int) (t : Int) (ys : List Int), (t = 1 ∨ t = 2) → posB r c xs = true → playTo r c xs t ms = some ys → posB r c ys = true
  | [], xs, t, ys, _, hp, h => by cases h; exact hp
  | m :: ms, xs, t, ys, ht, hp, h => by
    simp only [playTo] at h
    split at h
    · rename_i hm
      obtain ⟨k, rfl, hk, hlt⟩ := move_cell hm
      obtain ⟨R, C, hS⟩ := sides_of hp
      obtain ⟨rfl, rfl, _⟩ := id hS
      refine playTo_pos ms _ _ ys (by omega) ?_ h
      rcases ht with rfl | rfl
      · exact pos_set hp (P := 1) (.inl rfl) k
      · exact pos_set hp (P := 2) (.inr rfl) k
    · cases h

theorem start_pos {r c : Int} (hb : boardB r c = true) : posB r c (startL r c) = true := by
  obtain ⟨R, C, rfl, rfl, hB⟩ := boardB_nat hb
  exact posB_free hb (by rw [← Int.natCast_mul]; rfl)

/-! ### the stones at the end -/
theorem count_put {xs : List Int} {k : Nat} {a b : Int} (hk : xs[k]? = some 0) (hb : b ≠ 0) : (xs.set k a).count b = xs.count b + (if a = b then 1 else 0) := by
  have hlt := (List.getElem?_eq_some_iff.1 hk).1
  have h0 : xs[k] = 0 := (List.getElem?_eq_some_iff.1 hk).2
  rw [List.count_set hlt, h0]
  have e1 : ((0 : Int) == b) = false := beq_eq_false_iff_ne.2 (Ne.symm hb)
  rw [e1]
  by_cases hab : a = b
  · subst hab; simp
  · rw [if_neg hab]
    have : (a == b) = false := beq_eq_false_iff_ne.2 hab
    rw [this]; simp
theorem playTo_count {r c : Int} : ∀ (ms : List Int) (xs : List Int) (t : Int) (ys : List Int), (t = 1 ∨ t = 2) → playTo r c xs t ms = some ys →
    ys.count t = xs.count t + (ms.length + 1) / 2 ∧ ys.count (3 - t) = xs.count (3 - t) + ms.length / 2
  | [], xs, t, ys, _, h => by cases h; simp
  | m :: ms, xs, t, ys, ht, h => by
    simp only [playTo] at h
    split at h
    · rename_i hm
      obtain ⟨k, rfl, hk, hlt⟩ := move_cell hm
      have ih := playTo_count ms _ _ ys (by omega) h
      rw [Int.toNat_natCast, show (3 : Int) - (3 - t) = t by omega] at ih
      rw [count_put hk (by omega), count_put hk (by omega), if_pos rfl, if_neg (by omega)] at ih
      rw [List.length_cons]
      omega
    · cases h
/-- Who is to move has not joined. -/
theorem playTo_open {r c : Int} : ∀ (ms : List Int) (xs : List Int) (t : Int) (ys : List Int), (t = 1 ∨ t = 2) → posB r c xs = true → playTo r c xs t ms = some ys → joinsL r c xs t = false → joinsL r c ys (turnAt t ms.length) = false
  | [], xs, t, ys, _, _, h, hj => by cases h; exact hj
  | m :: ms, xs, t, ys, ht, hp, h, hj => by
    simp only [playTo] at h
    split at h
    · rename_i hm
      obtain ⟨k, rfl, hk, hlt⟩ := move_cell hm
      obtain ⟨R, C, hS⟩ := sides_of hp
      obtain ⟨rfl, rfl, _⟩ := id hS
      rw [List.length_cons, ← turnAt_succ]
      have hmv := moveL_iff.1 hm
      have key : ∀ P : Nat, (P = 1 ∨ P = 2) → t = (P : Int) → posB (R : Int) (C : Int) (xs.set k t) = true ∧ joinsL (R : Int) (C : Int) (xs.set k t) (3 - t) = false := by
        rintro P hP rfl
        refine ⟨pos_set hp hP k, ?_⟩
        have := joins_other_set hp hP hk
        rw [show (3 : Int) - (P : Int) = ((3 - P : Nat) : Int) by omega, this]
        rcases hP with rfl | rfl
        · exact hmv.2.2.2.2
        · exact hmv.2.2.2.1
      obtain ⟨q1, q2⟩ := key t.toNat (by omega) (by omega)
      rw [Int.toNat_natCast] at h
      exact playTo_open ms _ _ ys (by omega) q1 h q2
    · cases h
theorem start_open {r c : Int} {t : Int} (hb : boardB r c = true) (ht : t = 1 ∨ t = 2) : joinsL r c (startL r c) t = false := by
  obtain ⟨R, C, rfl, rfl, hB⟩ := boardB_nat hb
  have hp := start_pos hb
  have hz : ∀ w : Int, w ≠ 0 → setL (startL (R : Int) (C : Int)) w = 0 := by
    intro w hw
    apply Nat.eq_of_testBit_eq
    intro j
    rw [Nat.zero_testBit]
    cases e : (setL (startL (R : Int) (C : Int)) w).testBit j with
    | false => rfl
    | true =>
      have := setL_bit.1 e
      unfold startL at this
      rw [List.getElem?_replicate] at this
      split at this
      · have := Option.some.inj this; omega
      · cases this
  rcases ht with rfl | rfl
  · rw [joins_one hp, hz 1 (by decide)]; exact zero_not
  · rw [joins_two hp, hz 2 (by decide)]; exact zero_not

/-- What is at the end of a record. -/
theorem rec_end {r c : Int} {ms : List Int} (h : recB r c ms = true) : playTo r c (startL r c) 1 ms = some (recEnd r c ms) ∧ posB r c (recEnd r c ms) = true ∧ (recTurn r c ms = turnAt 1 ms.length) ∧ joinsL r c (recEnd r c ms) (recTurn r c ms) = false ∧
    (recEnd r c ms).count 1 = (ms.length + 1) / 2 ∧ (recEnd r c ms).count 2 = ms.length / 2 := by
  have hr := h
  unfold recB at h
  rw [Bool.and_eq_true] at h
  obtain ⟨ys, hy⟩ := Option.isSome_iff_exists.1 h.2
  have he : recEnd r c ms = ys := by unfold recEnd; rw [if_pos h.1, hy]; rfl
  have ht : recTurn r c ms = turnAt 1 ms.length := by unfold recTurn; rw [if_pos hr]
  rw [he, ht]
  have hc := playTo_count ms _ _ ys (.inl rfl) hy
  have z1 : (startL r c).count 1 = 0 := by unfold startL; rw [List.count_replicate]; simp
  have z2 : (startL r c).count 2 = 0 := by unfold startL; rw [List.count_replicate]; simp
  refine ⟨hy, playTo_pos ms _ _ ys (.inl rfl) (start_pos h.1) hy, rfl, playTo_open ms _ _ ys (.inl rfl) (start_pos h.1) hy (start_open h.1 (.inl rfl)), ?_, ?_⟩
  · rw [hc.1, z1]; omega
  · have := hc.2
    rw [show (3 : Int) - 1 = 2 by decide] at this
    rw [this, z2]; omega

theorem count_two {a b : Int} (hab : a ≠ b) : ∀ (l : List Int), l.count a + l.count b ≤ l.length
  | [] => by simp
  | x :: l => by
    have ih := count_two hab l
    rw [List.count_cons, List.count_cons, List.length_cons]
    by_cases h1 : x = a
    · subst h1
      have h2 : (x == b) = false := beq_eq_false_iff_ne.2 hab
      rw [h2]; simp; omega
    · have h2 : (x == a) = false := beq_eq_false_iff_ne.2 h1
      rw [h2]
      have h3 : (if (x == b) = true then 1 else 0) ≤ 1 := by split <;> omega
      simp only [Bool.false_eq_true, if_false]
      omega
/-- A record has at most as many moves as cells. -/
theorem rec_length {r c : Int} {ms : List Int} (h : recB r c ms = true) : (ms.length : Int) ≤ r * c ∧ ms.length ≤ 9 := by
  obtain ⟨h1, h2, _, _, h3, h4⟩ := rec_end h
  have hc := count_two (show (1 : Int) ≠ 2 by decide) (recEnd r c ms)
  obtain ⟨R, C, hS⟩ := sides_of h2
  obtain ⟨rfl, rfl, _, _, _, _, h9, hl, _⟩ := id hS
  rw [← Int.natCast_mul]
  omega

/-! ### slips -/
def slipsF (r c : Int) : List Int → Int → Nat → List Int → List Int
  | _, _, _, [] => []
  | xs, t, k, m :: ms => (if winL r c xs t = t ∧ winL r c (xs.set m.toNat t) (3 - t) ≠ t then [(k : Int)] else []) ++ slipsF r c (xs.set m.toNat t) (3 - t) (k + 1) ms
def slipsL (r c : Int) (ms : List Int) : List Int := if recB r c ms = true ∧ r * c ≤ 6 then slipsF r c (startL r c) 1 0 ms else []

theorem slipsF_bounds (r c : Int) : ∀ (ms : List Int) (xs : List Int) (t : Int) (k : Nat), (slipsF r c xs t k ms).Pairwise (· < ·) ∧ (∀ e ∈ slipsF r c xs t k ms, (k : Int) ≤ e) ∧ (slipsF r c xs t k ms).length ≤ ms.length
  | [], xs, t, k => ⟨List.Pairwise.nil, fun e he => (by cases he), Nat.le_refl _⟩
  | m :: ms, xs, t, k => by
    obtain ⟨h1, h2, h3⟩ := slipsF_bounds r c ms (xs.set m.toNat t) (3 - t) (k + 1)
    simp only [slipsF]
    split
    · refine ⟨List.Pairwise.cons (fun e he => by have := h2 e he; omega) h1, fun e he => ?_, by simp only [List.singleton_append, List.length_cons]; omega⟩
      rcases List.mem_cons.1 he with rfl | he
      · exact Int.le_refl _
      · have := h2 e he; omega
    · exact ⟨h1, fun e he => by have := h2 e (by simpa using he); omega, by simp only [List.nil_append, List.length_cons]; omega⟩

/-- One move: who wins changes just by a slip. -/
theorem slip_step {R C T : Nat} {xs : List Int} {k : Nat} (hp : posB (R : Int) (C : Int) xs = true) (hS : Sides (R : Int) (C : Int) R C xs) (hT : T = 1 ∨ T = 2) (hm : moveL (R : Int) (C : Int) xs (k : Int) (T : Int) = true) :
    (winL (R : Int) (C : Int) xs (T : Int) = winL (R : Int) (C : Int) (xs.set k (T : Int)) (3 - (T : Int)) ↔ ¬ (winL (R : Int) (C : Int) xs (T : Int) = (T : Int) ∧ winL (R : Int) (C : Int) (xs.set k (T : Int)) (3 - (T : Int)) ≠ (T : Int))) := by
  have hmv := moveL_iff.1 hm
  have hT' : 3 - T = 1 ∨ 3 - T = 2 := by omega
  have e3 : (3 : Int) - (T : Int) = ((3 - T : Nat) : Int) := by omega
  obtain ⟨W, hW, hW12⟩ := winL_cases (R := R) (C := C) hp hT
  have hp2 := pos_set hp hT k
  obtain ⟨W', hW', hW12'⟩ := winL_cases (R := R) (C := C) hp2 hT'
  have ho := winL_open hp hS hT hmv.2.2.2.1 hmv.2.2.2.2
  rw [← e3] at hW'
  constructor
  · intro h ⟨h1, h2⟩; rw [h] at h1; exact h2 h1
  · intro h
    by_cases hw : winL (R : Int) (C : Int) xs (T : Int) = (T : Int)
    · have : winL (R : Int) (C : Int) (xs.set k (T : Int)) (3 - (T : Int)) = (T : Int) := Classical.byContradiction fun hc => h ⟨hw, hc⟩
      rw [hw, this]
    · have hn : winL (R : Int) (C : Int) (xs.set k (T : Int)) (3 - (T : Int)) ≠ (T : Int) := fun hc => hw (ho.2 ⟨k, hmv.2.2.1, hc⟩)
      rw [hW] at hw ⊢
      rw [hW'] at hn ⊢
      omega

theorem slips_parity {R C : Nat} : ∀ (ms : List Int) (xs : List Int) (T : Nat) (k : Nat) (ys : List Int), (T = 1 ∨ T = 2) → posB (R : Int) (C : Int) xs = true → Sides (R : Int) (C : Int) R C xs → playTo (R : Int) (C : Int) xs (T : Int) ms = some ys →
    (winL (R : Int) (C : Int) xs (T : Int) = winL (R : Int) (C : Int) ys (turnAt (T : Int) ms.length) ↔ (slipsF (R : Int) (C : Int) xs (T : Int) k ms).length % 2 = 0)
  | [], xs, T, k, ys, hT, hp, hS, h => by cases h; simp [slipsF, turnAt]
  | m :: ms, xs, T, k, ys, hT, hp, hS, h => by
    simp only [playTo] at h
    split at h
    · rename_i hm
      obtain ⟨j, rfl, hj, hlt⟩ := move_cell hm
      rw [Int.toNat_natCast] at h
      have hT' : 3 - T = 1 ∨ 3 - T = 2 := by omega
      have e3 : (3 : Int) - (T : Int) = ((3 - T : Nat) : Int) := by omega
      have hp2 := pos_set hp hT j
      have hS2 := sides_set hp hS hT (k := j)
      have hst := slip_step hp hS hT hm
      rw [e3] at h
      have ih := slips_parity ms _ (3 - T) (k + 1) ys hT' hp2 hS2 h
      obtain ⟨W, hW, hW12⟩ := winL_cases (R := R) (C := C) hp hT
      obtain ⟨W', hW', hW12'⟩ := winL_cases (R := R) (C := C) hp2 hT'
      have hpy := playTo_pos ms _ _ ys (by omega) hp2 h
      have hty : turnAt (T : Int) (ms.length + 1) = 1 ∨ turnAt (T : Int) (ms.length + 1) = 2 := turnAt_player (by omega) _
      obtain ⟨Y, hY, hY12⟩ : ∃ Y : Nat, winL (R : Int) (C : Int) ys (turnAt (T : Int) (ms.length + 1)) = (Y : Int) ∧ (Y = 1 ∨ Y = 2) := by
        obtain ⟨R', C', hSy⟩ := sides_of hpy
        obtain ⟨e1, e2, _⟩ := id hSy
        obtain rfl : R = R' := by omega
        obtain rfl : C = C' := by omega
        rcases hty with e | e <;> rw [e]
        · exact winL_cases (T := 1) hpy (.inl rfl)
        · exact winL_cases (T := 2) hpy (.inr rfl)
      rw [← e3, turnAt_succ, e3] at ih
      rw [List.length_cons]
      simp only [slipsF, Int.toNat_natCast]
      rw [e3] at hst ⊢
      by_cases hsl : winL (R : Int) (C : Int) xs (T : Int) = (T : Int) ∧ winL (R : Int) (C : Int) (xs.set j (T : Int)) ((3 - T : Nat) : Int) ≠ (T : Int)
      · rw [if_pos hsl]
        have hne : ¬ winL (R : Int) (C : Int) xs (T : Int) = winL (R : Int) (C : Int) (xs.set j (T : Int)) ((3 - T : Nat) : Int) := fun e => (hst.1 e) hsl
        rw [hW, hW'] at hne
        rw [hW', hY] at ih
        rw [hW, hY]
        simp only [List.singleton_append, List.length_cons]
        constructor
        · intro e
          have : ¬ (W' : Int) = (Y : Int) := by omega
          have := mt ih.2 this
          omega
        · intro e
          have : ¬ (W' : Int) = (Y : Int) := fun e' => by have := ih.1 e'; omega
          omega
      · rw [if_neg hsl, List.nil_append, ← ih, hst.2 hsl]
    · cases h

/-! ### the best record -/
def bestL (r c : Int) : List Int := if boardB r c = true ∧ r * c ≤ 6 then lineL r c (startL r c) 1 else []

theorem line_record {R C W : Nat} (hW : W = 1 ∨ W = 2) : ∀ (f : Nat) (xs : List Int) (T : Nat) (k : Nat), posB (R : Int) (C : Int) xs = true → Sides (R : Int) (C : Int) R C xs → (T = 1 ∨ T = 2) → winL (R : Int) (C : Int) xs (T : Int) = (W : Int) →
    playTo (R : Int) (C : Int) xs (T : Int) (lineF (R : Int) (C : Int) f xs (T : Int)) = some (behindL xs (lineF (R : Int) (C : Int) f xs (T : Int)) (T : Int)) ∧ slipsF (R : Int) (C : Int) xs (T : Int) k (lineF (R : Int) (C : Int) f xs (T : Int)) = [] := by
  intro f
  induction f with
  | zero => intro xs T k _ _ _ _; exact ⟨rfl, rfl⟩
  | succ f ih =>
    intro xs T k hp hS hT hw
    rw [lineF]
    cases hg : goB (R : Int) (C : Int) xs with
    | false => rw [if_neg (by decide)]; exact ⟨rfl, rfl⟩
    | true =>
      rw [if_pos rfl]
      obtain ⟨j, hj, hm, hv⟩ := stepL_ok hp hS hT hW hg hw
      have hT' : 3 - T = 1 ∨ 3 - T = 2 := by omega
      have e3 : (3 : Int) - (T : Int) = ((3 - T : Nat) : Int) := by omega
      rw [hj]
      simp only [playTo, behindL, slipsF, Int.toNat_natCast, if_pos hm]
      have hns : ¬ (winL (R : Int) (C : Int) xs (T : Int) = (T : Int) ∧ winL (R : Int) (C : Int) (xs.set j (T : Int)) (3 - (T : Int)) ≠ (T : Int)) := fun ⟨a, b⟩ => b (by rw [hv, ← hw]; exact a)
      rw [if_neg hns, List.nil_append]
      rw [e3] at hv ⊢
      exact ih _ (3 - T) (k + 1) (pos_set hp hT j) (sides_set hp hS hT) hT' hv

/-! ### turned records -/
end Go.Proofs.YtpaehbfknlpkbabDoor

/- Names of cells and texts of records, as lists of bytes: none says two things, and each is read again. -/
set_option maxRecDepth 20000
namespace Go.Proofs.YtpaehbfknlpkbabDoor
open Go Go.Ip

/-! ### names of cells -/
/-! ### texts of records -/
theorem rec_board {r c : Int} {ms : List Int} (h : recB r c ms = true) : boardB r c = true := by
  unfold recB at h
  rw [Bool.and_eq_true] at h
  exact h.1
/-! ### cut at a byte -/
/-! ### numbers -/
end Go.Proofs.YtpaehbfknlpkbabDoor

/- The model's chapter 11: names of cells, records, what is at their end, their texts. -/
set_option maxRecDepth 20000
namespace Go.Proofs.YtpaehbfknlpkbabDoor
open Go Go.Ip G

variable (g : Nat → PV) (lf n : Nat)

end Go.Proofs.YtpaehbfknlpkbabDoor

/- The model's chapter 11, on: records, what is at their end, their texts. -/
set_option maxRecDepth 20000
namespace Go.Proofs.YtpaehbfknlpkbabDoor
open Go Go.Ip G

theorem start_nat (R C : Nat) : startL (R : Int) (C : Int) = List.replicate (R * C) 0 := by
  unfold startL; rw [← Int.natCast_mul, Int.toNat_natCast]

variable (g : Nat → PV) (lf n : Nat)

theorem specPlay_W (hlf : 1000 < lf) {R C : Nat} (hB : BoardOf R C) (hb : boardB (R : Int) (C : Int) = true) {ms : List Int} {p : PV} {h : PHeap} (hp : IntSl .i64 h p ms) (N : Nat) (hN : 8 ≤ N) :
    W (CL g lf N fn_spec_l11Play [.int .i64 (R : Int), .int .i64 (C : Int), p] h) fun v h' => ∃ q, v = .tup [q, .bool (playTo (R : Int) (C : Int) (startL (R : Int) (C : Int)) 1 ms).isSome] ∧ OwnSl h.length h' q ((playTo (R : Int) (C : Int) (startL (R : Int) (C : Int)) 1 ms).getD []) ∧ Keep h.length h h' := by
  obtain ⟨n, rfl⟩ : ∃ n, N = n + 1 := ⟨N - 1, by omega⟩
  obtain ⟨b1, b2, b3, b4, b9⟩ := id hB
  rw [spec_l11Play.call_eq]
  unfold spec_l11Play.main
  simp only [env_lf, env_bin, env_make]
  repeat (first | (refine wmake (by omega) fun q h1 o1 k1 => ?_) | with_reducible refine wmulN (by omega) ?_ | dsimp only)
  rw [← start_nat] at o1
  refine loopW (fun m st => ∃ (k T : Nat) (ys : List Int) (q' : PV) (h2 : PHeap), st = spec_l11Play.st0 (.int .i64 (R : Int)) (.int .i64 (C : Int)) p q' (.int .i64 (T : Int)) (.int .i64 (k : Int)) h2 ∧ k + m = 10 ∧ k ≤ ms.length ∧ (T = 1 ∨ T = 2) ∧ ((T : Int) = turnAt 1 k) ∧ playTo (R : Int) (C : Int) (startL (R : Int) (C : Int)) 1 (ms.take k) = some ys ∧ OwnSl h.length h2 q' ys ∧ Keep h.length h h2) ?_ lf 10 _ (by omega) ⟨0, 1, _, q, h1, rfl, by omega, by omega, .inl rfl, rfl, rfl, o1, k1⟩
  rintro n1 m1 st ⟨k, T, ys, q', h2, rfl, hkm, hkl, hT, ht, hpl, o2, k2⟩ next
  have hrec : recB (R : Int) (C : Int) (ms.take k) = true := by unfold recB; rw [hb, hpl]; rfl
  have h9 := (rec_length hrec).2
  rw [List.length_take, Nat.min_eq_left hkl] at h9
  have hyl : ys.length = R * C := by rw [playTo_length _ _ _ _ _ _ hpl, start_nat, List.length_replicate]
  have hp2 := hp.keep k2
  have heq : playTo (R : Int) (C : Int) (startL (R : Int) (C : Int)) 1 ms = playTo (R : Int) (C : Int) ys (T : Int) (ms.drop k) := by
    have := playTo_append (R : Int) (C : Int) (ms.take k) (ms.drop k) (startL (R : Int) (C : Int)) 1
    rw [List.take_append_drop, hpl, List.length_take, Nat.min_eq_left hkl] at this
    rw [ht]; exact this
  rw [spec_l11Play.body0_eq]
  unfold spec_l11Play.body0
  simp only [env_C, env_buildSlice, env_load, env_bin, env_un, env_indexAddr, env_extract, env_len]
  rcases Nat.lt_or_ge k ms.length with hk | hk
  · obtain ⟨m1, rfl⟩ : ∃ m, m1 = m + 1 := ⟨m1 - 1, by omega⟩
    have hd : ms.drop k = ms[k] :: ms.drop (k + 1) := List.drop_eq_getElem_cons hk
    obtain ⟨q3, h3, e3, o3, k3⟩ := specPlayed_calls g lf n (by omega) (R : Int) (C : Int) ms[k] (T : Int) o2.int (by omega) (by omega) hlf
    rw [hd] at heq; simp only [playTo] at heq
    cases hmv : moveL (R : Int) (C : Int) ys ms[k] (T : Int) with
    | false =>
      rw [hmv] at e3
      rw [hmv, if_neg (by decide)] at heq
      rw [heq]
      repeat (first | with_reducible refine wT ?_ | with_reducible refine wnF ?_ | with_reducible refine wrB ?_ | with_reducible refine wx0 ?_ | with_reducible refine wx1 ?_ | with_reducible refine wbd (by assumption) ?_ | with_reducible refine wlen (by assumption) ?_ | (refine wat hp2 hk fun a ea => ?_) | (refine wempty fun q4 h4 o4 k4 => ?_) | with_reducible refine wlssT (by omega) ?_ | with_reducible refine wresO (by assumption) ?_ | rw [kLoop_ret] | rw [spec_l11Play.K0_ret] | rw [spec_l11Play.top_sr_6_7] | dsimp only)
      exact W.ret ⟨_, rfl, o4.mono (Nat.le_trans k2.1 k3.1), k2.trans ((k3.mono k2.1).trans (k4.mono (Nat.le_trans k2.1 k3.1)))⟩
    | true =>
      rw [hmv] at e3
      rw [hmv, if_pos rfl] at heq
      have ho := other_W g lf n (by omega) h3 hT
      unfold playedL at o3
      rw [hmv, if_pos rfl] at o3
      repeat (first | with_reducible refine wT ?_ | with_reducible refine wF ?_ | with_reducible refine wnT ?_ | with_reducible refine wx0 ?_ | with_reducible refine wx1 ?_ | with_reducible refine wbd (by assumption) ?_ | with_reducible refine wlen (by assumption) ?_ | (refine wat hp2 hk fun a ea => ?_) | with_reducible refine wadd1 (by omega) ?_ | with_reducible refine wlssT (by omega) ?_ | dsimp only)
      refine next _ _ (Nat.lt_succ_self _) ⟨k + 1, 3 - T, _, q3, h3, rfl, by omega, hk, by omega, ?_, ?_, o3.mono k2.1, k2.trans (k3.mono k2.1)⟩
      · rw [← turnAt_succ]
        have : ((3 - T : Nat) : Int) = 3 - turnAt 1 k := by rw [← ht]; omega
        rw [this]; unfold turnAt; split <;> rfl
      · rw [List.take_succ_eq_append_getElem hk, playTo_append, hpl, List.length_take, Nat.min_eq_left hkl]
        show playTo (R : Int) (C : Int) ys (turnAt 1 k) [ms[k]] = _
        rw [← ht]
        simp only [playTo]
        rw [hmv, if_pos rfl]
  · obtain rfl : k = ms.length := by omega
    rw [List.take_length] at hpl
    rw [hpl]
    repeat (first | with_reducible refine wF ?_ | with_reducible refine wrB ?_ | with_reducible refine wlen (by assumption) ?_ | with_reducible refine wlssF (by omega) ?_ | with_reducible refine wresO (by assumption) ?_ | rw [kLoop_exit] | rw [spec_l11Play.after0_se0_0_1_2_8_9_10_20])
    exact W.ret ⟨_, rfl, o2, k2⟩

theorem specRecordOk_W (hlf : 1000 < lf) (r c : Int) {ms : List Int} {p : PV} {h : PHeap} (hp : IntSl .i64 h p ms) (N : Nat) (hN : 9 ≤ N) :
    W (CL g lf N fn_spec_RecordOk [.int .i64 r, .int .i64 c, p] h) fun v h' => v = .bool (recB r c ms) ∧ Keep h.length h h' := by
  obtain ⟨n, rfl⟩ : ∃ n, N = n + 1 := ⟨N - 1, by omega⟩
  have e1 := specBoardOk_N g lf n (by omega) h r c
  rw [spec_RecordOk.call_eq]
  unfold spec_RecordOk.main
  simp only [env_C, env_un, env_extract]
  cases hb : boardB r c with
  | false =>
    rw [hb] at e1
    repeat (first | with_reducible refine wT ?_ | with_reducible refine wnF ?_ | with_reducible refine wrB ?_ | with_reducible refine wbd (by assumption) ?_ | dsimp only)
    exact W.ret ⟨by unfold recB; rw [hb]; rfl, Keep.refl _ _⟩
  | true =>
    rw [hb] at e1
    obtain ⟨R, C, rfl, rfl, hB⟩ := boardB_nat hb
    repeat (first | with_reducible refine wF ?_ | with_reducible refine wnT ?_ | with_reducible refine wbd (by assumption) ?_ | dsimp only)
    refine wcall (specPlay_W g lf hlf hB hb hp n (by omega)) fun v h1 ⟨q, hv, o1, k1⟩ => ?_
    subst hv
    repeat (first | with_reducible refine wrB ?_ | with_reducible refine wx0 ?_ | with_reducible refine wx1 ?_ | dsimp only)
    exact W.ret ⟨by unfold recB; rw [hb]; rfl, k1⟩

end Go.Proofs.YtpaehbfknlpkbabDoor

/- A text cut step by step; a record read word by word is the record that the text says. -/
set_option maxRecDepth 20000
namespace Go.Proofs.YtpaehbfknlpkbabDoor
open Go Go.Ip

/-! ### cut step by step: the word under way, and what is behind it -/
/-! ### a record, read word by word -/
end Go.Proofs.YtpaehbfknlpkbabDoor

/- The model's chapter 11, on: texts cut, numbers and records read. -/
set_option maxRecDepth 20000
namespace Go.Proofs.YtpaehbfknlpkbabDoor
open Go Go.Ip G

theorem OwnT.at {n i : Nat} {h : PHeap} {p : PV} {ss : List (List UInt8)} {x : List UInt8} (s : OwnT n h p ss) (hx : ss[i]? = some x) :
    ∃ a, indexAddrP Tryd.prog 57 p (.int .i64 (i : Int)) = some a ∧ loadP Tryd.prog 9 a h = some (.str (sB x)) := by
  have hi : i < ss.length := (List.getElem?_eq_some_iff.1 hx).1
  rcases s with ⟨rfl, rfl⟩ | ⟨id, _, rfl, h3⟩
  · cases hx
  · exact ⟨.ptr id (0 + i), by simp [indexAddrP, tyT1]; omega, by simp [loadP, tyTA, cellsAt, h3, PObj.get, hx]⟩
theorem OwnT.res {n : Nat} {h : PHeap} {p : PV} {ss : List (List UInt8)} (s : OwnT n h p ss) : resV p = some p := by
  rcases s with ⟨rfl, _⟩ | ⟨_, _, rfl, _⟩ <;> rfl
section
variable {Q : PV → PHeap → Prop} {f : PV → Res}
end

variable (g : Nat → PV) (lf n : Nat)

end Go.Proofs.YtpaehbfknlpkbabDoor

/- The model's chapter 11, on: records read, slips, the best record. -/
set_option maxRecDepth 20000
namespace Go.Proofs.YtpaehbfknlpkbabDoor
open Go Go.Ip G

variable (g : Nat → PV) (lf n : Nat)

theorem slips_step {r c : Int} {xs : List Int} {t : Int} {k : Nat} {m : Int} {ms : List Int} : slipsF r c xs t k (m :: ms) = (if winL r c xs t = t ∧ winL r c (xs.set m.toNat t) (3 - t) ≠ t then [(k : Int)] else []) ++ slipsF r c (xs.set m.toNat t) (3 - t) (k + 1) ms := rfl

theorem specSlipsOf_W (hlf : 1000 < lf) (r c : Int) {ms : List Int} {p : PV} {h : PHeap} (hp : IntSl .i64 h p ms) (N : Nat) (hN : 18 ≤ N) :
    W (CL g lf N fn_spec_SlipsOf [.int .i64 r, .int .i64 c, p] h) fun q h' => OwnSl h.length h' q (slipsL r c ms) ∧ Keep h.length h h' := by
  obtain ⟨n, rfl⟩ : ∃ n, N = n + 1 := ⟨N - 1, by omega⟩
  rw [spec_SlipsOf.call_eq]
  unfold spec_SlipsOf.main
  simp only [env_C, env_lf, env_pick, env_buildSlice, env_bin, env_un, env_make]
  refine wempty fun q h1 o1 k1 => ?_
  have hp1 := hp.keep k1
  refine wcall (specRecordOk_W g lf hlf r c hp1 n (by omega)) fun v h2 ⟨hv, k2⟩ => ?_
  subst hv
  have k12 := k1.trans (k2.mono k1.1)
  have o2 := o1.keep k2
  cases hr : recB r c ms with
  | false =>
    have he : slipsL r c ms = [] := by unfold slipsL; rw [hr, if_neg (by simp)]
    rw [he]
    repeat (first | with_reducible refine wT ?_ | with_reducible refine wg0 rfl ?_ | with_reducible refine wpT ?_ | with_reducible refine wnF ?_ | with_reducible refine wsm ?_ | with_reducible refine wresO (by assumption) ?_ | dsimp only)
    exact W.ret ⟨o2, k12⟩
  | true =>
    have hb := rec_board hr
    have h9 := (rec_length hr).2
    obtain ⟨hpl, _⟩ := rec_end hr
    obtain ⟨R, C, rfl, rfl, hB⟩ := boardB_nat hb
    obtain ⟨b1, b2, b3, b4, b9⟩ := id hB
    by_cases h6 : R * C ≤ 6
    case neg =>
      have he : slipsL (R : Int) (C : Int) ms = [] := by unfold slipsL; rw [if_neg]; rintro ⟨_, a⟩; rw [← Int.natCast_mul] at a; omega
      rw [he]
      repeat (first | with_reducible refine wT ?_ | with_reducible refine wg1 rfl ?_ | with_reducible refine wpF ?_ | with_reducible refine wnT ?_ | with_reducible refine wpv ?_ | with_reducible refine wsm ?_ | with_reducible refine wmulN (by omega) ?_ | with_reducible refine wgtrT (by omega) ?_ | with_reducible refine wresO (by assumption) ?_ | dsimp only)
      exact W.ret ⟨o2, k12⟩
    case pos =>
    have he : slipsL (R : Int) (C : Int) ms = slipsF (R : Int) (C : Int) (startL (R : Int) (C : Int)) 1 0 ms := by unfold slipsL; rw [if_pos ⟨hr, by rw [← Int.natCast_mul]; omega⟩]
    rw [he]
    repeat (first | with_reducible refine wF ?_ | with_reducible refine wg1 rfl ?_ | with_reducible refine wpF ?_ | with_reducible refine wnT ?_ | with_reducible refine wpv ?_ | with_reducible refine wsm ?_ | with_reducible refine wmulN (by omega) ?_ | with_reducible refine wgtrF (by omega) ?_ | dsimp only)
    refine wmake (by omega) fun q3 h3 o3 k3 => ?_
    rw [← start_nat] at o3
    have hp0 := start_pos hb
    obtain ⟨R', C', hS⟩ := sides_of hp0
    obtain ⟨hR', hC', _⟩ := id hS
    obtain rfl : R = R' := by omega
    obtain rfl : C = C' := by omega
    refine loopW (fun m st => ∃ (k T : Nat) (xs acc : List Int) (q4 q5 : PV) (h4 : PHeap), st = spec_SlipsOf.st0 (.int .i64 (R : Int)) (.int .i64 (C : Int)) p q4 q5 (.int .i64 (T : Int)) (.int .i64 (k : Int)) h4 ∧ k + m = ms.length ∧ acc.length ≤ k ∧ (T = 1 ∨ T = 2) ∧ posB (R : Int) (C : Int) xs = true ∧ Sides (R : Int) (C : Int) R C xs ∧ (playTo (R : Int) (C : Int) xs (T : Int) (ms.drop k)).isSome = true ∧
      slipsF (R : Int) (C : Int) (startL (R : Int) (C : Int)) 1 0 ms = acc ++ slipsF (R : Int) (C : Int) xs (T : Int) k (ms.drop k) ∧ (∃ c1 c2, c2 ≤ h4.length ∧ Apart h.length c1 c2 h4 q4 acc ∧ OwnB c1 c2 h4 q5 xs) ∧ Keep h.length h h4) ?_ lf ms.length _ (by omega) ⟨0, 1, _, [], q, q3, h3, rfl, by omega, Nat.le_refl _, .inl rfl, hp0, hS, ?_, rfl, ⟨h2.length, h3.length, Nat.le_refl _, ⟨h.length, h2.length, o2.b.keep k3, Nat.le_refl _, .inl (Nat.le_refl _), k3.1⟩, o3.b⟩, k12.trans (k3.mono k12.1)⟩
    case refine_2 =>
      rw [List.drop_zero]
      show (playTo (R : Int) (C : Int) (startL (R : Int) (C : Int)) 1 ms).isSome = true
      rw [hpl]; rfl
    rintro n1 m1 st ⟨k, T, xs, acc, q4, q5, h4, rfl, hkm, hal, hT, hps, hSx, hpt, hsl, ⟨c1, c2, hc2, oA, oB⟩, k4⟩ next
    have hp4 := hp.keep k4
    rw [spec_SlipsOf.body0_eq]
    unfold spec_SlipsOf.body0
    simp only [env_C, env_pick, env_buildSlice, env_load, env_bin, env_indexAddr, env_extract, env_len, env_append]
    cases m1 with
    | zero =>
      obtain rfl : k = ms.length := by omega
      rw [List.drop_length] at hsl
      have hsl' : slipsF (R : Int) (C : Int) (startL (R : Int) (C : Int)) 1 0 ms = acc := by rw [hsl]; simp [slipsF]
      rw [hsl']
      have os := oA.sl
      repeat (first | with_reducible refine wF ?_ | with_reducible refine wlen (by assumption) ?_ | with_reducible refine wlssF (by omega) ?_ | with_reducible refine wresO (by assumption) ?_ | rw [kLoop_exit] | rw [spec_SlipsOf.after0_se0_0_1_2_7_8_9_10_33])
      exact W.ret ⟨os, k4⟩
    | succ m1 =>
      have hk : k < ms.length := by omega
      have hd : ms.drop k = ms[k] :: ms.drop (k + 1) := List.drop_eq_getElem_cons hk
      rw [hd] at hpt hsl
      rw [slips_step] at hsl
      simp only [playTo] at hpt
      cases hmv : moveL (R : Int) (C : Int) xs ms[k] (T : Int) with
      | false => rw [hmv] at hpt; simp at hpt
      | true =>
      rw [hmv, if_pos rfl] at hpt
      obtain ⟨j, hj, hjl⟩ := moveL_cell hmv
      have hT' : 3 - T = 1 ∨ 3 - T = 2 := by omega
      have e3T : (3 : Int) - (T : Int) = ((3 - T : Nat) : Int) := by omega
      have hlen : xs.length = R * C := hSx.2.2.2.2.2.2.2.1
      have hps2 := pos_set hps hT j
      have hS2 : Sides (R : Int) (C : Int) R C (xs.set j (T : Int)) := sides_set hps hSx hT
      obtain ⟨h5, e1, k5⟩ := winner_W g lf hSx hT oB.sl.int hlf n (by omega)
      obtain ⟨q6, h6, e2, o6, k6⟩ := specPlayed_calls g lf n (by omega) (R : Int) (C : Int) ms[k] (T : Int) (oB.sl.int.keep k5) (by omega) (by omega) hlf
      unfold playedL at o6
      rw [hmv, if_pos rfl] at o6
      rw [hmv] at e2
      rw [hj, Int.toNat_natCast] at hpt hsl o6
      rw [e3T] at hpt hsl
      have ho := other_W g lf n (by omega) h6 hT
      obtain ⟨h7, e4, k7⟩ := winner_W g lf hS2 hT' o6.int hlf n (by omega)
      have ho2 := other_W g lf n (by omega) h7 hT
      rw [winL_eq hps hT, winL_eq hps2 hT'] at hsl
      generalize winN R C (setL xs 1) (setL xs 2) T = W1 at e1 hsl
      generalize winN R C (setL (xs.set j (T : Int)) 1) (setL (xs.set j (T : Int)) 2) (3 - T) = W2 at e4 hsl
      have hp5 := hp4.keep k5
      have k47 : Keep h4.length h4 h7 := k5.trans ((k6.mono k5.1).trans (k7.mono (Nat.le_trans k5.1 k6.1)))
      have k07 := k4.trans (k47.mono k4.1)
      have oA7 : Apart h.length h5.length h6.length h7 q4 acc := by
        obtain ⟨a, b, o, i1, i2, i3⟩ := oA
        exact ⟨a, b, o.keep (k47.mono i3), i1, .inl (Nat.le_trans i3 k5.1), Nat.le_trans i3 k47.1⟩
      have oB7 : OwnB h5.length h6.length h7 q6 (xs.set j (T : Int)) := o6.b.keep k7
      by_cases hw1 : (W1 : Int) = (T : Int)
      · by_cases hw2 : (W2 : Int) = (T : Int)
        · rw [if_neg (fun a => a.2 hw2), List.nil_append] at hsl
          repeat (first | with_reducible refine wT ?_ | with_reducible refine wF ?_ | with_reducible refine wg1 rfl ?_ | with_reducible refine wpT ?_ | with_reducible refine wpv ?_ | with_reducible refine wsm ?_ | with_reducible refine wx0 ?_ | with_reducible refine wx1 ?_ | with_reducible refine wbd (by assumption) ?_ | with_reducible refine wlen (by assumption) ?_ | (refine wat hp5 hk fun a ea => ?_) | with_reducible refine wadd1 (by omega) ?_ | with_reducible refine wlssT (by omega) ?_ | with_reducible refine weqlT (by omega) ?_ | with_reducible refine wneqF (by omega) ?_ | dsimp only)
          exact next _ _ (Nat.lt_succ_self _) ⟨k + 1, 3 - T, _, acc, q4, q6, h7, rfl, by omega, by omega, hT', hps2, hS2, hpt, hsl, ⟨_, _, k7.1, oA7, oB7⟩, k07⟩
        · rw [if_pos ⟨hw1, hw2⟩] at hsl
          repeat (first | with_reducible refine wT ?_ | with_reducible refine wg1 rfl ?_ | with_reducible refine wpT ?_ | with_reducible refine wpv ?_ | with_reducible refine wsm ?_ | with_reducible refine wx0 ?_ | with_reducible refine wx1 ?_ | with_reducible refine wbd (by assumption) ?_ | with_reducible refine wlen (by assumption) ?_ | (refine wat hp5 hk fun a ea => ?_) | with_reducible refine wlssT (by omega) ?_ | with_reducible refine weqlT (by omega) ?_ | with_reducible refine wneqT (by omega) ?_ | dsimp only)
          refine wapA oA7 oB7 k07.1 k7.1 (by omega) fun p' h8 oA8 oB8 k8 => ?_
          have ho8 := other_W g lf n (by omega) h8 hT
          have h78 : h7.length ≤ h8.length := k8.1
          repeat (first | with_reducible refine wbd (by assumption) ?_ | with_reducible refine wadd1 (by omega) ?_ | dsimp only)
          exact next _ _ (Nat.lt_succ_self _) ⟨k + 1, 3 - T, _, acc ++ [(k : Int)], p', q6, h8, rfl, by omega, by rw [List.length_append]; simp; omega, hT', hps2, hS2, hpt, by rw [hsl, List.append_assoc], ⟨_, _, Nat.le_trans k7.1 h78, oA8, oB8⟩, k07.trans k8⟩
      · rw [if_neg (fun a => hw1 a.1), List.nil_append] at hsl
        repeat (first | with_reducible refine wT ?_ | with_reducible refine wF ?_ | with_reducible refine wg0 rfl ?_ | with_reducible refine wpF ?_ | with_reducible refine wsm ?_ | with_reducible refine wx0 ?_ | with_reducible refine wx1 ?_ | with_reducible refine wbd (by assumption) ?_ | with_reducible refine wlen (by assumption) ?_ | (refine wat hp5 hk fun a ea => ?_) | with_reducible refine wadd1 (by omega) ?_ | with_reducible refine wlssT (by omega) ?_ | with_reducible refine weqlF (by omega) ?_ | dsimp only)
        exact next _ _ (Nat.lt_succ_self _) ⟨k + 1, 3 - T, _, acc, q4, q6, h7, rfl, by omega, by omega, hT', hps2, hS2, hpt, hsl, ⟨_, _, k7.1, oA7, oB7⟩, k07⟩

theorem specBestRecord_W (hlf : 1000 < lf) (r c : Int) (h : PHeap) (N : Nat) (hN : 20 ≤ N) :
    W (CL g lf N fn_spec_BestRecord [.int .i64 r, .int .i64 c] h) fun q h' => OwnSl h.length h' q (bestL r c) ∧ Keep h.length h h' := by
  obtain ⟨n, rfl⟩ : ∃ n, N = n + 1 := ⟨N - 1, by omega⟩
  have e1 := specBoardOk_N g lf n (by omega) h r c
  rw [spec_BestRecord.call_eq]
  unfold spec_BestRecord.main
  simp only [env_C, env_pick, env_buildSlice, env_bin, env_un, env_make]
  cases hb : boardB r c with
  | false =>
    rw [hb] at e1
    have he : bestL r c = [] := by unfold bestL; rw [hb, if_neg (by simp)]
    rw [he]
    repeat (first | with_reducible refine wT ?_ | with_reducible refine wg0 rfl ?_ | with_reducible refine wpT ?_ | with_reducible refine wnF ?_ | with_reducible refine wsm ?_ | with_reducible refine wbd (by assumption) ?_ | (refine wempty fun q4 h4 o4 k4 => ?_) | with_reducible refine wresO (by assumption) ?_ | dsimp only)
    exact W.ret ⟨o4, k4⟩
  | true =>
    rw [hb] at e1
    obtain ⟨R, C, rfl, rfl, hB⟩ := boardB_nat hb
    obtain ⟨b1, b2, b3, b4, b9⟩ := id hB
    by_cases h6 : R * C ≤ 6
    case neg =>
      have he : bestL (R : Int) (C : Int) = [] := by unfold bestL; rw [if_neg]; rintro ⟨_, a⟩; rw [← Int.natCast_mul] at a; omega
      rw [he]
      repeat (first | with_reducible refine wT ?_ | with_reducible refine wg1 rfl ?_ | with_reducible refine wpF ?_ | with_reducible refine wnT ?_ | with_reducible refine wpv ?_ | with_reducible refine wsm ?_ | with_reducible refine wbd (by assumption) ?_ | (refine wempty fun q4 h4 o4 k4 => ?_) | with_reducible refine wmulN (by omega) ?_ | with_reducible refine wgtrT (by omega) ?_ | with_reducible refine wresO (by assumption) ?_ | dsimp only)
      exact W.ret ⟨o4, k4⟩
    case pos =>
    have he : bestL (R : Int) (C : Int) = lineL (R : Int) (C : Int) (startL (R : Int) (C : Int)) 1 := by unfold bestL; rw [if_pos ⟨hb, by rw [← Int.natCast_mul]; omega⟩]
    rw [he]
    repeat (first | with_reducible refine wF ?_ | with_reducible refine wg1 rfl ?_ | with_reducible refine wpF ?_ | with_reducible refine wnT ?_ | with_reducible refine wpv ?_ | with_reducible refine wsm ?_ | with_reducible refine wbd (by assumption) ?_ | (refine wmake (by omega) fun q3 h3 o3 k3 => ?_) | with_reducible refine wmulN (by omega) ?_ | with_reducible refine wgtrF (by omega) ?_ | dsimp only)
    rw [← start_nat] at o3
    have hl : (startL (R : Int) (C : Int)).length = R * C := by rw [start_nat, List.length_replicate]
    obtain ⟨q4, h4, e4, o4, k4⟩ := specLinePlayed_calls g lf n (by omega) (R : Int) (C : Int) 1 o3.int (by omega) (by omega) hlf
    repeat (first | with_reducible refine wbd (by assumption) ?_ | with_reducible refine wresO (by assumption) ?_ | dsimp only)
    exact W.ret ⟨o4.mono k3.1, k3.trans (k4.mono k3.1)⟩

end Go.Proofs.YtpaehbfknlpkbabDoor

/- The exact laws of chapter 11 over what the program's functions are asked to compute. -/
set_option maxRecDepth 20000
namespace Go.Proofs.YtpaehbfknlpkbabDoor
open Go Go.Ip G

def RecordOkOk (g : Nat → PV) (lf : Nat) : Prop := ∀ (N : Nat), 44 ≤ N → ∀ (r c : Int) {ms : List Int} {p : PV} {h : PHeap}, TabOk g h → IntSl .i64 h p ms → ms.length ≤ 2 ^ 35 → ms.length < lf →
  ∃ h', CL g lf N fn_impl_RecordOk [.int .i64 r, .int .i64 c, p] h = some (.bool (recB r c ms), h') ∧ Keep h.length h h'
def EndOfOk (g : Nat → PV) (lf : Nat) : Prop := ∀ (N : Nat), 44 ≤ N → ∀ (r c : Int) {ms : List Int} {p : PV} {h : PHeap}, TabOk g h → IntSl .i64 h p ms → ms.length ≤ 2 ^ 35 → ms.length < lf →
  ∃ q h', CL g lf N fn_impl_EndOf [.int .i64 r, .int .i64 c, p] h = some (.tup [q, .int .i64 (recTurn r c ms)], h') ∧ OwnSl h.length h' q (recEnd r c ms) ∧ Keep h.length h h'
def SlipsOk (g : Nat → PV) (lf : Nat) : Prop := ∀ (N : Nat), 44 ≤ N → ∀ (r c : Int) {ms : List Int} {p : PV} {h : PHeap}, TabOk g h → IntSl .i64 h p ms → ms.length ≤ 2 ^ 35 → ms.length < lf →
  ∃ q h', CL g lf N fn_impl_SlipsOf [.int .i64 r, .int .i64 c, p] h = some (q, h') ∧ OwnSl h.length h' q (slipsL r c ms) ∧ Keep h.length h h'
def BestOk (g : Nat → PV) (lf : Nat) : Prop := ∀ (N : Nat), 44 ≤ N → ∀ (r c : Int) {h : PHeap}, TabOk g h →
  ∃ q h', CL g lf N fn_impl_BestRecord [.int .i64 r, .int .i64 c] h = some (q, h') ∧ OwnSl h.length h' q (bestL r c) ∧ Keep h.length h h'

theorem recEnd_length (r c : Int) (ms : List Int) : (recEnd r c ms).length ≤ 9 := by
  unfold recEnd
  split
  · rename_i hb
    cases hp : playTo r c (startL r c) 1 ms with
    | none => simp
    | some ys =>
      obtain ⟨R, C, rfl, rfl, hB⟩ := boardB_nat hb
      have := hB.2.2.2.2
      rw [Option.getD_some, playTo_length _ _ _ _ _ _ hp, start_nat, List.length_replicate]; exact this
  · simp
theorem slipsL_length (r c : Int) (ms : List Int) : (slipsL r c ms).length ≤ 9 := by
  unfold slipsL
  split
  · rename_i h
    exact Nat.le_trans (slipsF_bounds r c ms _ _ _).2.2 (rec_length h.1).2
  · simp
theorem bestL_length (r c : Int) : (bestL r c).length ≤ 9 := by
  unfold bestL
  split
  · rename_i h
    obtain ⟨R, C, rfl, rfl, hB⟩ := boardB_nat h.1
    have := hB.2.2.2.2
    have h2 := lineL_length (R : Int) (C : Int) (startL (R : Int) (C : Int)) 1
    rw [start_nat, List.length_replicate] at h2
    rw [start_nat]
    omega
  · simp
section
variable {Q : PV → PHeap → Prop} {P : Program} {t : TypeId} {a : List UInt8} {f : PV → Res}
end

variable (g : Nat → PV) (lf n : Nat)

end Go.Proofs.YtpaehbfknlpkbabDoor

/- The draws of chapter 11: boards with moves. -/
set_option maxRecDepth 20000
namespace Go.Proofs.YtpaehbfknlpkbabDoor
open Go Go.Ip G

theorem wlit3 {Q : PV → PHeap → Prop} {h : PHeap} {a b c : Int} {F : PV × PHeap → Res} (hf : ∀ p h', OwnSl h.length h' p [a, b, c] → Keep h.length h h' → W (F (p, h')) Q) : W ((buildSliceP Tryd.prog 23 3 [(0, .int .i64 a), (1, .int .i64 b), (2, .int .i64 c)] h).bind F) Q := by
  have hb : buildSliceP Tryd.prog 23 3 [(0, .int .i64 a), (1, .int .i64 b), (2, .int .i64 c)] h = some (.sl h.length 0 3, h ++ [.own 1 ([a, b, c].map (.int .i64))]) := by
    simp [buildSliceP, tyElem, tySize, tyZero, repeatCells, fillP, PV.cells, setCells]
  exact wbd hb (hf _ _ (.inr ⟨h.length, Nat.le_refl _, rfl, by simp⟩) (Keep.append _ _ _ (Nat.le_refl _)))
theorem Apart.only1 {b0 b1 b2 id : Nat} {h h' : PHeap} {q : PV} {ys : List Int} (s : Apart b0 b1 b2 h q ys) (k : Only id (id + 1) h h') (hid : id < b0) : Apart b0 b1 b2 h' q ys := by
  obtain ⟨n, m, o, h1, h2, h3⟩ := s
  exact ⟨n, m, o.only k (.inr (by omega)), h1, h2, by rw [k.1]; exact h3⟩

variable (g : Nat → PV) (lf n : Nat)

theorem record_W {h : PHeap} {id m : Nat} (N : Nat) (hN : 9 ≤ N) (c : Int) (hc1 : 0 ≤ c) (hc2 : c ≤ 1000) (hr : Rd h id m) (hm : m ≤ 500000) (hlf : 1000 < lf) :
    W (CL g lf N fn_spec_l20Record [.ptr id 0, .int .i64 c] h) fun v h' => ∃ (r cc : Int) (q : PV) (ms : List Int) (m' : Nat), v = .tup [.int .i64 r, .int .i64 cc, q] ∧ Rd h' id m' ∧ m' ≤ m + 100 ∧ Keep id h h' ∧ OwnSl (id + 1) h' q ms ∧ ms.length ≤ 11 ∧ (∀ e ∈ ms, -1 ≤ e ∧ e ≤ 9) ∧ -1 ≤ r ∧ r ≤ 5 ∧ -1 ≤ cc ∧ cc ≤ 5 := by
  obtain ⟨n, rfl⟩ : ∃ n, N = n + 1 := ⟨N - 1, by omega⟩
  have hid := hr.lt
  obtain ⟨r, cc, h1, e1, r1, K1, hr1, hr2, hc3, hc4⟩ := board_calls g lf n (by omega) (c * 2) hr (by omega) (by omega) (by omega)
  have hb := mul_bound hr1 hr2 hc3 hc4
  have hl1 := K1.1
  obtain ⟨X, hX, hX0, hX1⟩ : ∃ X : Nat, foldP maxP2 (.int .i64 (r * cc)) [.int .i64 0] = some (.int .i64 (X : Int)) ∧ 0 ≤ X ∧ X ≤ 25 := by
    refine ⟨(if (0 : Int) > r * cc then (0 : Int) else r * cc).toNat, ?_, Nat.zero_le _, by split <;> omega⟩
    rw [Int.toNat_of_nonneg (by split <;> omega)]; rfl
  have f10 : binP Tryd.prog .rem 3 (.int .i64 (X : Int)) (.int .i64 10) = some (.int .i64 ((X % 10 : Nat) : Int)) := f_rem X 10 (by decide)
  rw [spec_l20Record.call_eq]
  unfold spec_l20Record.main
  simp only [env_C, env_lf, env_buildSlice, env_bin, env_make, env_extract, env_max]
  repeat (first | with_reducible refine wx0 ?_ | with_reducible refine wx1 ?_ | with_reducible refine wbd (by assumption) ?_ | (refine wempty fun q h2 o2 k2 => ?_) | with_reducible refine wmul (by omega) ?_ | dsimp only)
  try dsimp only at o2 k2
  have r2 := r1.keep k2 r1.lt
  repeat (first | (refine wmake (by omega) fun p h3 o3 k3 => ?_) | dsimp only)
  try dsimp only at o3 k3
  have r3 := r2.keep k3 r2.lt
  obtain ⟨v4, h4, e4, r4, ok4, a1, a2, _⟩ := pick_calls g lf n (by omega) 10 r3 (by omega) (by omega)
  obtain ⟨V, rfl⟩ := Int.eq_ofNat_of_zero_le a1
  have hV : V < 10 := by have := a2 (by omega); omega
  have K04 : Keep id h h4 := (K1.keep (by omega)).trans ((k2.mono (by omega)).trans ((k3.mono (Nat.le_trans (by omega) k2.1)).trans ok4.keep))
  have oA4 : Apart (id + 1) h2.length h3.length h4 q [] := ⟨h1.length, h2.length, (o2.b.keep k3).only ok4 (.inr (by omega)), by omega, .inl (Nat.le_refl _), by rw [ok4.1]; exact k3.1⟩
  have oB4 : OwnB h2.length h3.length h4 p (List.replicate (X % 10) 0) := o3.b.only ok4 (.inr (by have := k2.1; omega))
  repeat (first | with_reducible refine wbd (by assumption) ?_ | dsimp only)
  refine loopW (fun d s => ∃ (T : Nat) (ms xs : List Int) (q p : PV) (m' : Nat) (h5 : PHeap), s = spec_l20Record.st0 (.ptr id 0) (.int .i64 c) (.int .i64 r) (.int .i64 cc) q p (.int .i64 (T : Int)) (.int .i64 (d : Int)) h5 ∧ (T = 1 ∨ T = 2) ∧ ms.length + d ≤ 9 ∧ xs.length ≤ 9 ∧ (∀ e ∈ ms, -1 ≤ e ∧ e ≤ 9) ∧ (∃ c1 c2, id < c1 ∧ c2 ≤ h5.length ∧ Apart (id + 1) c1 c2 h5 q ms ∧ OwnB c1 c2 h5 p xs) ∧ Rd h5 id m' ∧ m' + d ≤ m + 20 ∧ Keep id h h5) ?_ lf V _ (by omega)
    ⟨1, [], _, q, p, m + 3 + 1, h4, rfl, .inl rfl, by simp; omega, by rw [List.length_replicate]; omega, (fun e he => by cases he), ⟨_, _, Nat.lt_of_lt_of_le hid (Nat.le_trans hl1 k2.1), by rw [ok4.1]; exact Nat.le_refl _, oA4, oB4⟩, r4, by omega, K04⟩
  rintro n1 d s ⟨T, ms, xs, q, p, m', h5, rfl, hT, hml, hxl, hme, ⟨c1, c2, hc0, hc12, oA, oB⟩, r5, hm5, k5⟩ next
  have hid5 := r5.lt
  have leave : d = 0 ∨ boardB r cc = false → W (spec_l20Record.K0 (env g lf n) (kTop Tryd.prog Tryd.f27) (.exit 0) (spec_l20Record.se0_0_1_7_8_9_10_11_12_38 (.ptr id 0) (.int .i64 c) (.int .i64 r) (.int .i64 cc) q p (.int .i64 (T : Int)) (.int .i64 (d : Int)) (.bool false) h5)) fun v h' => ∃ (r cc : Int) (q : PV) (ms : List Int) (m' : Nat), v = .tup [.int .i64 r, .int .i64 cc, q] ∧ Rd h' id m' ∧ m' ≤ m + 100 ∧ Keep id h h' ∧ OwnSl (id + 1) h' q ms ∧ ms.length ≤ 11 ∧ (∀ e ∈ ms, -1 ≤ e ∧ e ≤ 9) ∧ -1 ≤ r ∧ r ≤ 5 ∧ -1 ≤ cc ∧ cc ≤ 5 := fun _ => by
    obtain ⟨bo, h6, e6, r6, ok6⟩ := odd_calls0 g lf n (by omega) (c * 2) r5 (by omega) (by omega) (by omega)
    have k6 := k5.trans ok6.keep
    have o6 := oA.sl.keepOnly ok6 (Nat.lt_succ_self _)
    cases bo with
    | false =>
      repeat (first | with_reducible refine wF ?_ | with_reducible refine wrI ?_ | with_reducible refine wbd (by assumption) ?_ | (with_reducible refine wresO o6 ?_) | with_reducible refine wmul (by omega) ?_ | rw [spec_l20Record.after0_se0_0_1_7_8_9_10_11_12_38] | dsimp only | simp only [env_C, env_Y, env_g, env_lf, env_pick, env_alloc, env_box, env_build, env_buildSlice, env_load, env_store, env_ptr, env_bin, env_un, env_conv, env_make, env_slice, env_fieldAddr, env_field, env_indexAddr, env_index, env_extract, env_len, env_append, env_max, env_min, env_makeMap, env_lookup, env_update, env_clos, env_bstr, env_ext])
      exact W.ret ⟨r, cc, q, ms, _, rfl, r6, by omega, k6, o6, by omega, hme, hr1, hr2, hc3, hc4⟩
    | true =>
      repeat (first | with_reducible refine wT ?_ | with_reducible refine wbd (by assumption) ?_ | (refine wlit3 fun q7 h7 o7 k7 => ?_) | with_reducible refine wmul (by omega) ?_ | rw [spec_l20Record.after0_se0_0_1_7_8_9_10_11_12_38] | dsimp only | simp only [env_C, env_Y, env_g, env_lf, env_pick, env_alloc, env_box, env_build, env_buildSlice, env_load, env_store, env_ptr, env_bin, env_un, env_conv, env_make, env_slice, env_fieldAddr, env_field, env_indexAddr, env_index, env_extract, env_len, env_append, env_max, env_min, env_makeMap, env_lookup, env_update, env_clos, env_bstr, env_ext])
      try dsimp only at o7 k7
      have r7 := r6.keep k7 r6.lt
      have o67 := o6.keep k7
      obtain ⟨v8, h8, e8, r8, ok8, d1, d2, _⟩ := pick_calls g lf n (by omega) 3 r7 (by omega) (by omega)
      obtain ⟨Y, rfl⟩ := Int.eq_ofNat_of_zero_le d1
      have hY : Y < 3 := by have := d2 (by omega); omega
      have hid6 := r6.lt
      have o8 : OwnSl h6.length h8 q7 [-1, 9, 0] := o7.keepOnly ok8 (by omega)
      have o68 := o67.keepOnly ok8 (Nat.lt_succ_self _)
      have hid8 := r8.lt
      repeat (first | with_reducible refine wbd (by assumption) ?_ | (refine wat o8.int (show Y < 3 from hY) fun a hl => ?_) | dsimp only)
      skip
      refine wap o68 hid8 (by omega) fun p' h9 o9 k9 => ?_
      have r9 := r8.keep k9 (Nat.lt_succ_self _)
      have hv : -1 ≤ ([-1, 9, 0] : List Int)[Y] ∧ ([-1, 9, 0] : List Int)[Y] ≤ 9 := by
        have : Y = 0 ∨ Y = 1 ∨ Y = 2 := by omega
        rcases this with rfl | rfl | rfl <;> simp
      repeat (first | with_reducible refine wrI ?_ | (with_reducible refine wresO o9 ?_) | dsimp only)
      refine W.ret ⟨r, cc, p', _, _, rfl, r9, by omega, k6.trans ((k7.mono (by omega)).trans (ok8.keep.trans (k9.mono (Nat.le_succ _)))), o9, by rw [List.length_append]; simp; omega, fun e he => ?_, hr1, hr2, hc3, hc4⟩
      rcases List.mem_append.1 he with he | he
      · exact hme e he
      · rw [List.mem_singleton.1 he]; exact hv
  have hB := specBoardOk_N g lf n (by omega) h5 r cc
  rw [spec_l20Record.body0_eq]
  unfold spec_l20Record.body0
  simp only [env_C, env_pick, env_buildSlice, env_bin, env_extract, env_append]
  cases d with
  | zero =>
    repeat (first | with_reducible refine wF ?_ | with_reducible refine wg0 rfl ?_ | with_reducible refine wpF ?_ | with_reducible refine wsm ?_ | with_reducible refine wgtrF (by omega) ?_ | rw [kLoop_exit] | dsimp only)
    exact leave (.inl rfl)
  | succ d =>
    cases hbo : boardB r cc with
    | false =>
      rw [hbo] at hB
      repeat (first | with_reducible refine wF ?_ | with_reducible refine wg1 rfl ?_ | with_reducible refine wpT ?_ | with_reducible refine wsm ?_ | with_reducible refine wbd (by assumption) ?_ | with_reducible refine wgtrT (by omega) ?_ | rw [kLoop_exit] | dsimp only)
      exact leave (.inr hbo)
    | true =>
    rw [hbo] at hB
    clear leave
    obtain ⟨R, C, rfl, rfl, hBo⟩ := boardB_nat hbo
    have ⟨b1, b2, b3, b4, b9⟩ := hBo
    have hRC : 1 ≤ R * C := Nat.mul_pos (by omega) (by omega)
    obtain ⟨v6, h6, e6, r6, ok6, d1, d2, _⟩ := pick_calls g lf n (by omega) ((R * C : Nat) : Int) r5 (by omega) (by omega)
    have hv6 := d2 (by omega)
    have oA6 := oA.only1 ok6 (Nat.lt_succ_self _)
    have oB6 := oB.only ok6 (.inr (by omega))
    obtain ⟨q7, h7, e7, o7, k7⟩ := specPlayed_calls g lf n (by omega) (R : Int) (C : Int) v6 (T : Int) oB6.int (by omega) (by omega) hlf
    have hpl := playedL_length (R : Int) (C : Int) xs v6 (T : Int)
    have r7 := r6.keep k7 r6.lt
    have oA7 : Apart (id + 1) h6.length h7.length h7 q ms := by
      obtain ⟨a, b, o, i1, i2, i3⟩ := oA6
      exact ⟨a, b, o.keep (k7.mono i3), i1, .inl i3, Nat.le_trans i3 k7.1⟩
    have hid6 := r6.lt
    have hid7 := r7.lt
    have k57 : Keep id h h7 := k5.trans (ok6.keep.trans (k7.mono (by omega)))
    cases hmv : moveL (R : Int) (C : Int) xs v6 (T : Int) with
    | false =>
      rw [hmv] at e7
      repeat (first | with_reducible refine wT ?_ | with_reducible refine wF ?_ | with_reducible refine wg1 rfl ?_ | with_reducible refine wpT ?_ | with_reducible refine wsm ?_ | with_reducible refine wx0 ?_ | with_reducible refine wx1 ?_ | with_reducible refine wbd (by assumption) ?_ | with_reducible refine wsub1 (by omega) (by omega) ?_ | with_reducible refine wmulN (by omega) ?_ | with_reducible refine wgtrT (by omega) ?_ | dsimp only)
      exact next _ _ (Nat.lt_succ_self d) ⟨T, ms, xs, q, p, _, h7, rfl, hT, by omega, hxl, hme, ⟨c1, c2, hc0, Nat.le_trans hc12 (by rw [← ok6.1]; exact k7.1), oA6.keep k7, oB6.keep (k7.mono (by rw [ok6.1]; exact hc12))⟩, r7, by omega, k57⟩
    | true =>
      rw [hmv] at e7
      repeat (first | with_reducible refine wT ?_ | with_reducible refine wg1 rfl ?_ | with_reducible refine wpT ?_ | with_reducible refine wsm ?_ | with_reducible refine wx0 ?_ | with_reducible refine wx1 ?_ | with_reducible refine wbd (by assumption) ?_ | with_reducible refine wmulN (by omega) ?_ | with_reducible refine wgtrT (by omega) ?_ | dsimp only)
      refine wapA oA7 o7.b hid7 (Nat.le_refl _) (by omega) fun p' h8 oA8 oB8 k8 => ?_
      have h78 : h7.length ≤ h8.length := k8.1
      have ho8 := other_W g lf n (by omega) h8 hT
      repeat (first | with_reducible refine wbd (by assumption) ?_ | with_reducible refine wsub1 (by omega) (by omega) ?_ | dsimp only)
      refine next _ _ (Nat.lt_succ_self d) ⟨3 - T, _, _, p', q7, _, h8, rfl, by omega, by rw [List.length_append]; simp; omega, by omega, fun e he => ?_, ⟨_, _, hid6, h78, oA8, oB8⟩, r7.keep k8 (Nat.lt_succ_self _), by omega, k57.trans (k8.mono (Nat.le_succ _))⟩
      rcases List.mem_append.1 he with he | he
      · exact hme e he
      · rw [List.mem_singleton.1 he]; omega

theorem drawSlipsOf_W {p : PV} {ys : List Int} {h : PHeap} (N : Nat) (hN : 11 ≤ N) (ha : Arg h p ys) (hlf : 1000 < lf) :
    ∃ (r c : Int) (q : PV) (ms : List Int) (h' : PHeap), CL g lf N fn_spec_DrawSlipsOf [p] h = some (.tup [.int .i64 r, .int .i64 c, q], h') ∧ Keep h.length h h' ∧ OwnSl (h.length + 1) h' q ms ∧ ms.length ≤ 11 ∧ (∀ e ∈ ms, -1 ≤ e ∧ e ≤ 9) ∧ -1 ≤ r ∧ r ≤ 5 ∧ -1 ≤ c ∧ c ≤ 5 := by
  obtain ⟨n, rfl⟩ : ∃ n, N = n + 1 := ⟨N - 1, by omega⟩
  have : W (CL g lf (n + 1) fn_spec_DrawSlipsOf [p] h) fun v h' => ∃ (r c : Int) (q : PV) (ms : List Int), v = .tup [.int .i64 r, .int .i64 c, q] ∧ Keep h.length h h' ∧ OwnSl (h.length + 1) h' q ms ∧ ms.length ≤ 11 ∧ (∀ e ∈ ms, -1 ≤ e ∧ e ≤ 9) ∧ -1 ≤ r ∧ r ≤ 5 ∧ -1 ≤ c ∧ c ≤ 5 := by
    obtain ⟨h1, e1, r1, k1⟩ := open_calls g lf n (by omega) ha
    rw [spec_DrawSlipsOf.call_eq]
    unfold spec_DrawSlipsOf.main
    simp only [env_C, env_extract]
    repeat (first | with_reducible refine wbd (by assumption) ?_ | dsimp only)
    refine wcall (record_W g lf n (by omega) 12 (by omega) (by omega) r1 (by omega) hlf) fun v h2 ⟨r, c, q, ms, m', hv, r2, hm2, k2, o2, hl, he, hb⟩ => ?_
    subst hv
    repeat (first | with_reducible refine wrI ?_ | with_reducible refine wx0 ?_ | with_reducible refine wx1 ?_ | with_reducible refine wx2 ?_ | (with_reducible refine wresO o2 ?_) | dsimp only)
    exact W.ret ⟨r, c, q, ms, rfl, k1.trans k2, o2, hl, he, hb⟩
  obtain ⟨v, h', e, r, c, q, ms, rfl, rest⟩ := this
  exact ⟨r, c, q, ms, h', e, rest⟩

theorem drawBestRecord_calls {p : PV} {ys : List Int} {h : PHeap} (N : Nat) (hN : 7 ≤ N) (ha : Arg h p ys) :
    ∃ (r c : Int) (h' : PHeap), CL g lf N fn_spec_DrawBestRecord [p] h = some (.tup [.int .i64 r, .int .i64 c], h') ∧ Keep h.length h h' := by
  obtain ⟨n, rfl⟩ : ∃ n, N = n + 1 := ⟨N - 1, by omega⟩
  have : W (CL g lf (n + 1) fn_spec_DrawBestRecord [p] h) fun v h' => ∃ (r c : Int), v = .tup [.int .i64 r, .int .i64 c] ∧ Keep h.length h h' := by
    obtain ⟨h1, e1, r1, k1⟩ := open_calls g lf n (by omega) ha
    obtain ⟨r, c, h2, e2, r2, k2, _⟩ := small_calls g lf n (by omega) r1 (by omega)
    rw [spec_DrawBestRecord.call_eq]
    unfold spec_DrawBestRecord.main
    simp only [env_C, env_extract]
    repeat (first | with_reducible refine wrI ?_ | with_reducible refine wx0 ?_ | with_reducible refine wx1 ?_ | with_reducible refine wbd (by assumption) ?_ | dsimp only)
    exact W.ret ⟨r, c, rfl, k1.trans (k2.keep (by have := k1.1; omega))⟩
  obtain ⟨v, h', e, r, c, rfl, rest⟩ := this
  exact ⟨r, c, h', e, rest⟩

end Go.Proofs.YtpaehbfknlpkbabDoor

/- Laws of chapter 11 over what the program's functions are asked to compute. -/
set_option maxRecDepth 20000
namespace Go.Proofs.YtpaehbfknlpkbabDoor
open Go Go.Ip G

/-! ### the beginning of a list, copied -/
def Pre (h : PHeap) (p : PV) (xs : List Int) (k : Nat) : Prop := (p = .nilsl ∧ xs = []) ∨ ∃ id, p = .sl id 0 k ∧ h[id]? = some (.own 1 (xs.map (.int .i64)))
theorem OwnSl.pre {n : Nat} {h : PHeap} {p : PV} {xs : List Int} (s : OwnSl n h p xs) : Pre h p xs xs.length := by
  rcases s with s | ⟨id, _, h2, h3⟩
  · exact .inl s
  · exact .inr ⟨id, h2, h3⟩
variable (g : Nat → PV) (lf n : Nat)

theorem fnSlipsOf_calls (hS : SlipsOk g lf) (hE : EndOfOk g lf) (hW : WinnerOk g lf) {p : PV} {ys : List Int} {h : PHeap} (N : Nat) (hN : 55 ≤ N) (ha : Arg h p ys) (hlf : 1000 < lf) (ht : TabOk g h) :
    ∃ h', CL g lf N fn_laws_FnSlipsOf [p] h = some (.bool true, h') := by
  obtain ⟨n, rfl⟩ : ∃ n, N = n + 1 := ⟨N - 1, by omega⟩
  apply W.yes
  rw [laws_FnSlipsOf.call_eq]
  unfold laws_FnSlipsOf.main
  simp only [env_C, env_pick, env_bin, env_un, env_make, env_extract, env_len]
  have hlenp : lenP Tryd.prog 22 p = some (.int .i64 ys.length) := (ha.1 h (Keep.refl _ _)).len tyB
  by_cases hbig : (1048576 : Int) < (ys.length : Int)
  · repeat (first | with_reducible refine wT ?_ | with_reducible refine wrB ?_ | with_reducible refine wbd (by assumption) ?_ | with_reducible refine wgtrT (by omega) ?_)
    exact W.ret rfl
  obtain ⟨r, c, q, ms, h1, e1, k1, oq, hl, hme, hr1, hr2, hc1, hc2⟩ := drawSlipsOf_W g lf n (by omega) ha hlf
  have htF := tabF ht k1
  have hq : Fix h1.length h1 q ms := oq.int.fix
  have hb1 : h1.length ≤ h1.length := Nat.le_refl _
  have k0 : Keep h1.length h1 h1 := Keep.refl _ _
  have hal : ∀ h2, CL g lf n fn_laws_alive [] h2 = some (.bool true, h2) := fun h2 => alive_calls g lf n (by omega) h2
  have hbo : ∀ h2, CL g lf n fn_spec_BoardOk [.int .i64 r, .int .i64 c] h2 = some (.bool (boardB r c), h2) := fun h2 => specBoardOk_N g lf n (by omega) h2 r c
  obtain ⟨q2, h2, e2, o2, k2⟩ := hS n (by omega) r c (htF _ k0) (hq _ k0) (by omega) (by omega)
  obtain ⟨q3, h3, e3, o3, k3⟩ := specSlipsOf_W g lf hlf r c (hq _ k2) n (by omega)
  have k13 := k2.trans (k3.mono k2.1)
  have hsl := slipsL_length r c ms
  have o2' := o2.keep k3
  have e4 := sameInts_N g lf n (by omega) o2'.int o3.int (by omega) (by omega)
  rw [decide_eq_true rfl] at e4
  obtain ⟨_, h4, e5, rfl, k4⟩ := specRecordOk_W g lf hlf r c (hq _ k13) n (by omega)
  have k14 := k13.trans (k4.mono k13.1)
  have o24 := o2'.keep k4
  have hlen2 := o24.int.len'
  cases hrb : recB r c ms with
  | false =>
    have he : slipsL r c ms = [] := by unfold slipsL; rw [hrb, if_neg (by simp)]
    rw [hrb] at e5
    rw [he] at hlen2
    have hlen0 : lenP Tryd.prog 23 q2 = some (.int .i64 0) := hlen2
    clear hlen2
    repeat (first | with_reducible refine wT ?_ | with_reducible refine wF ?_ | with_reducible refine wg1 rfl ?_ | with_reducible refine wg0 rfl ?_ | with_reducible refine wpT ?_ | with_reducible refine wnT ?_ | with_reducible refine wnF ?_ | with_reducible refine wsm ?_ | with_reducible refine wrB ?_ | with_reducible refine wx0 ?_ | with_reducible refine wx1 ?_ | with_reducible refine wx2 ?_ | with_reducible refine wbd (by assumption) ?_ | (with_reducible refine wbd (hal _) ?_) | with_reducible refine wgtrF (by omega) ?_ | with_reducible refine weqlT (by omega) ?_ | dsimp only)
    exact W.ret rfl
  | true =>
    rw [hrb] at e5
    have hb := rec_board hrb
    obtain ⟨hpl, hpo, htu, hjo, _⟩ := rec_end hrb
    have h9 := (rec_length hrb).2
    obtain ⟨R, C, rfl, rfl, hB⟩ := boardB_nat hb
    have ⟨b1, b2, b3, b4, b9⟩ := hB
    by_cases h6 : R * C ≤ 6
    case neg =>
      have he : slipsL (R : Int) (C : Int) ms = [] := by unfold slipsL; rw [if_neg]; rintro ⟨_, a⟩; rw [← Int.natCast_mul] at a; omega
      rw [he] at hlen2
      have hlen0 : lenP Tryd.prog 23 q2 = some (.int .i64 0) := hlen2
      clear hlen2
      repeat (first | with_reducible refine wT ?_ | with_reducible refine wF ?_ | with_reducible refine wg1 rfl ?_ | with_reducible refine wpT ?_ | with_reducible refine wpF ?_ | with_reducible refine wnT ?_ | with_reducible refine wpv ?_ | with_reducible refine wsm ?_ | with_reducible refine wrB ?_ | with_reducible refine wx0 ?_ | with_reducible refine wx1 ?_ | with_reducible refine wx2 ?_ | with_reducible refine wbd (by assumption) ?_ | (with_reducible refine wbd (hal _) ?_) | with_reducible refine wmulN (by omega) ?_ | with_reducible refine wgtrT (by omega) ?_ | with_reducible refine wgtrF (by omega) ?_ | with_reducible refine weqlT (by omega) ?_ | dsimp only)
      exact W.ret rfl
    case pos =>
    have hL : slipsL (R : Int) (C : Int) ms = slipsF (R : Int) (C : Int) (startL (R : Int) (C : Int)) 1 0 ms := by unfold slipsL; rw [if_pos ⟨hrb, by rw [← Int.natCast_mul]; omega⟩]
    have hbd := slipsF_bounds (R : Int) (C : Int) ms (startL (R : Int) (C : Int)) 1 0
    rw [← hL] at hbd
    have hp0 := start_pos hb
    obtain ⟨R', C', hSd⟩ := sides_of hp0
    obtain ⟨hR', hC', _⟩ := id hSd
    obtain rfl : R = R' := by omega
    obtain rfl : C = C' := by omega
    have hpar := slips_parity ms (startL (R : Int) (C : Int)) 1 0 (recEnd (R : Int) (C : Int) ms) (.inl rfl) hp0 hSd hpl
    rw [show ((1 : Nat) : Int) = 1 from rfl, ← hL] at hpar
    obtain ⟨q5, h5, e6, o5, k5⟩ := hE n (by omega) (R : Int) (C : Int) (htF _ k14) (hq _ k14) (by omega) (by omega)
    have k15 := k14.trans (k5.mono k14.1)
    rw [htu] at e6
    have hel := recEnd_length (R : Int) (C : Int) ms
    have hlenq := fun h2 k2 => (hq h2 k2).len'
    repeat (first | with_reducible refine wF ?_ | with_reducible refine wg1 rfl ?_ | with_reducible refine wpF ?_ | with_reducible refine wnT ?_ | with_reducible refine wpv ?_ | with_reducible refine wsm ?_ | with_reducible refine wx0 ?_ | with_reducible refine wx1 ?_ | with_reducible refine wx2 ?_ | with_reducible refine wbd (by assumption) ?_ | (refine wmake (by omega) fun q6 h6 o6 k6 => ?_) | with_reducible refine wmulN (by omega) ?_ | with_reducible refine wgtrF (by omega) ?_ | dsimp only)
    try dsimp only at o6 k6
    rw [← start_nat] at o6
    have k16 := k15.trans (k6.mono k15.1)
    have hsl0 : (startL (R : Int) (C : Int)).length = R * C := by rw [start_nat, List.length_replicate]
    obtain ⟨h7, e7, k7⟩ := hW n (by omega) (R : Int) (C : Int) 1 (htF _ k16) o6.int (by omega) (by omega)
    have k17 := k16.trans (k7.mono k16.1)
    obtain ⟨h8, e8, k8⟩ := hW n (by omega) (R : Int) (C : Int) (turnAt 1 ms.length) (htF _ k17) ((o5.keep k6).keep k7).int (by omega) (by omega)
    have o28 := (((o24.keep k5).keep k6).keep k7).keep k8
    have k18 := k17.trans (k8.mono k17.1)
    have hq8 := (hq _ k18).len'
    have e9 := ascend_calls g lf n (by omega) o28.int (fun i hi => List.pairwise_iff_getElem.1 hbd.1 i (i + 1) (by omega) hi (Nat.lt_succ_self i)) (by omega) (by omega)
    have hlen8 := o28.int.len'
    have hle2 : (slipsL (R : Int) (C : Int) ms).length ≤ ms.length := hbd.2.2
    clear hlen2 hlenq
    generalize winL (R : Int) (C : Int) (startL (R : Int) (C : Int)) 1 = A at *
    generalize winL (R : Int) (C : Int) (recEnd (R : Int) (C : Int) ms) (turnAt 1 ms.length) = B at *
    by_cases hAB : A = B
    · have hp2 := hpar.1 hAB
      repeat (first | with_reducible refine wg1 rfl ?_ | with_reducible refine wpT ?_ | with_reducible refine wpv ?_ | with_reducible refine wsm ?_ | with_reducible refine wrB ?_ | with_reducible refine wbd (by assumption) ?_ | (with_reducible refine weqlBB ?_) | with_reducible refine wrem2 ?_ | with_reducible refine wleqT (by omega) ?_ | with_reducible refine weqlT (by omega) ?_ | dsimp only)
      exact W.ret rfl
    · have hp2 : ¬ (slipsL (R : Int) (C : Int) ms).length % 2 = 0 := fun a => hAB (hpar.2 a)
      repeat (first | with_reducible refine wg1 rfl ?_ | with_reducible refine wpT ?_ | with_reducible refine wpv ?_ | with_reducible refine wsm ?_ | with_reducible refine wrB ?_ | with_reducible refine wbd (by assumption) ?_ | (with_reducible refine weqlBB ?_) | with_reducible refine wrem2 ?_ | with_reducible refine wleqT (by omega) ?_ | with_reducible refine weqlF (by omega) ?_ | dsimp only)
      exact W.ret rfl

end Go.Proofs.YtpaehbfknlpkbabDoor

/- Laws of chapter 11 over what the program's functions are asked to compute, on. -/
set_option maxRecDepth 20000
namespace Go.Proofs.YtpaehbfknlpkbabDoor
open Go Go.Ip G

/-- The best record is one, without slips, and in the end who wins has joined. -/
theorem best_record {r c : Int} (h : ¬ bestL r c = []) : recB r c (bestL r c) = true ∧ slipsL r c (bestL r c) = [] ∧ joinsL r c (recEnd r c (bestL r c)) (winL r c (startL r c) 1) = true ∧ boardB r c = true ∧ (winL r c (startL r c) 1 = 1 ∨ winL r c (startL r c) 1 = 2) := by
  have hc : boardB r c = true ∧ r * c ≤ 6 := by
    by_cases hc : boardB r c = true ∧ r * c ≤ 6
    · exact hc
    · exact absurd (by unfold bestL; rw [if_neg hc]) h
  obtain ⟨hb, h6⟩ := hc
  have hL : bestL r c = lineL r c (startL r c) 1 := by unfold bestL; rw [if_pos ⟨hb, h6⟩]
  have hp0 := start_pos hb
  obtain ⟨R, C, rfl, rfl, hB⟩ := boardB_nat hb
  obtain ⟨R', C', hS⟩ := sides_of hp0
  obtain ⟨hR', hC', _⟩ := id hS
  obtain rfl : R = R' := by omega
  obtain rfl : C = C' := by omega
  obtain ⟨V, hV, hV2⟩ := winL_cases hp0 (T := 1) (.inl rfl)
  have hV' : winL (R : Int) (C : Int) (startL (R : Int) (C : Int)) 1 = (V : Int) := hV
  have hlen : (startL (R : Int) (C : Int)).length = R * C := hS.2.2.2.2.2.2.2.1
  have hLe : lineF (R : Int) (C : Int) (startL (R : Int) (C : Int)).length (startL (R : Int) (C : Int)) ((1 : Nat) : Int) = bestL (R : Int) (C : Int) := by
    rw [hL]; unfold lineL; rw [hp0]; rfl
  have hend := lineF_ok hV2 (startL (R : Int) (C : Int)).length (startL (R : Int) (C : Int)) 1 hp0 hS (.inl rfl) (by rw [hlen]; exact pop_le hB.2.2.2.2 (set_lt hS 0)) hV
  obtain ⟨h1, h2⟩ := line_record hV2 (startL (R : Int) (C : Int)).length (startL (R : Int) (C : Int)) 1 0 hp0 hS (.inl rfl) hV
  rw [hLe] at hend h1 h2
  have h1' : playTo (R : Int) (C : Int) (startL (R : Int) (C : Int)) 1 (bestL (R : Int) (C : Int)) = some (behindL (startL (R : Int) (C : Int)) (bestL (R : Int) (C : Int)) ((1 : Nat) : Int)) := h1
  have hrec : recB (R : Int) (C : Int) (bestL (R : Int) (C : Int)) = true := by unfold recB; rw [hb, h1']; rfl
  refine ⟨hrec, ?_, ?_, hb, by rw [hV']; omega⟩
  · unfold slipsL; rw [if_pos ⟨hrec, h6⟩]; exact h2
  · have : recEnd (R : Int) (C : Int) (bestL (R : Int) (C : Int)) = behindL (startL (R : Int) (C : Int)) (bestL (R : Int) (C : Int)) ((1 : Nat) : Int) := by unfold recEnd; rw [if_pos hb, h1']; rfl
    rw [this, hV']; exact hend

variable (g : Nat → PV) (lf n : Nat)

theorem fnBestRecord_calls (hBe : BestOk g lf) (hE : EndOfOk g lf) (hR : RecordOkOk g lf) (hS : SlipsOk g lf) (hW : WinnerOk g lf) (hJ : JoinsOk g lf) {p : PV} {ys : List Int} {h : PHeap} (N : Nat) (hN : 55 ≤ N) (ha : Arg h p ys) (hlf : 1000 < lf) (ht : TabOk g h) :
    ∃ h', CL g lf N fn_laws_FnBestRecord [p] h = some (.bool true, h') := by
  obtain ⟨n, rfl⟩ : ∃ n, N = n + 1 := ⟨N - 1, by omega⟩
  apply W.yes
  rw [laws_FnBestRecord.call_eq]
  unfold laws_FnBestRecord.main
  simp only [env_C, env_pick, env_bin, env_un, env_make, env_extract, env_len]
  have hlenp : lenP Tryd.prog 22 p = some (.int .i64 ys.length) := (ha.1 h (Keep.refl _ _)).len tyB
  by_cases hbig : (1048576 : Int) < (ys.length : Int)
  · repeat (first | with_reducible refine wT ?_ | with_reducible refine wrB ?_ | with_reducible refine wbd (by assumption) ?_ | with_reducible refine wgtrT (by omega) ?_)
    exact W.ret rfl
  obtain ⟨r, c, h1, e1, k1⟩ := drawBestRecord_calls g lf n (by omega) ha
  have htF := tabF ht k1
  have k0 : Keep h1.length h1 h1 := Keep.refl _ _
  have hal : ∀ h2, CL g lf n fn_laws_alive [] h2 = some (.bool true, h2) := fun h2 => alive_calls g lf n (by omega) h2
  have hbl := bestL_length r c
  obtain ⟨q2, h2, e2, o2, k2⟩ := hBe n (by omega) r c (htF _ k0)
  obtain ⟨q3, h3, e3, o3, k3⟩ := specBestRecord_W g lf hlf r c h2 n (by omega)
  have k13 := k2.trans (k3.mono k2.1)
  have o23 := o2.keep k3
  have e4 := sameInts_N g lf n (by omega) o23.int o3.int (by omega) (by omega)
  rw [decide_eq_true rfl] at e4
  have hlen2 := o23.int.len'
  by_cases hne : bestL r c = []
  · rw [hne] at hlen2
    have hlen0 : lenP Tryd.prog 23 q2 = some (.int .i64 0) := hlen2
    clear hlen2
    repeat (first | with_reducible refine wT ?_ | with_reducible refine wF ?_ | with_reducible refine wnT ?_ | with_reducible refine wrB ?_ | with_reducible refine wx0 ?_ | with_reducible refine wx1 ?_ | with_reducible refine wbd (by assumption) ?_ | (with_reducible refine wbd (hal _) ?_) | with_reducible refine wgtrF (by omega) ?_ | with_reducible refine weqlT (by omega) ?_ | dsimp only)
    exact W.ret rfl
  · obtain ⟨hrec, hsl, hjo, hb, hw12⟩ := best_record hne
    have hpos : 0 < (bestL r c).length := List.length_pos_iff.2 hne
    obtain ⟨q4, h4, e5, o4, k4⟩ := hE n (by omega) r c (htF _ k13) o23.int (by omega) (by omega)
    have k14 := k13.trans (k4.mono k13.1)
    have o24 := o23.keep k4
    obtain ⟨h5, e6, k5⟩ := hR n (by omega) r c (htF _ k14) o24.int (by omega) (by omega)
    rw [hrec] at e6
    have k15 := k14.trans (k5.mono k14.1)
    have o25 := o24.keep k5
    obtain ⟨q6, h6, e7, o6, k6⟩ := hS n (by omega) r c (htF _ k15) o25.int (by omega) (by omega)
    rw [hsl] at o6
    have k16 := k15.trans (k6.mono k15.1)
    have hlen6 : lenP Tryd.prog 23 q6 = some (.int .i64 0) := o6.int.len'
    have o46 := (o4.keep k5).keep k6
    have hel := recEnd_length r c (bestL r c)
    obtain ⟨R, C, rfl, rfl, hB⟩ := boardB_nat hb
    have ⟨b1, b2, b3, b4, b9⟩ := hB
    repeat (first | with_reducible refine wF ?_ | with_reducible refine wg1 rfl ?_ | with_reducible refine wpT ?_ | with_reducible refine wnT ?_ | with_reducible refine wpv ?_ | with_reducible refine wsm ?_ | with_reducible refine wx0 ?_ | with_reducible refine wx1 ?_ | with_reducible refine wbd (by assumption) ?_ | (refine wmake (by omega) fun q7 h7 o7 k7 => ?_) | with_reducible refine wmulN (by omega) ?_ | with_reducible refine wgtrF (by omega) ?_ | with_reducible refine weqlT (by omega) ?_ | with_reducible refine weqlF (by omega) ?_ | dsimp only)
    try dsimp only at o7 k7
    rw [← start_nat] at o7
    have k17 := k16.trans (k7.mono k16.1)
    have hsl0 : (startL (R : Int) (C : Int)).length = R * C := by rw [start_nat, List.length_replicate]
    obtain ⟨h8, e8, k8⟩ := hW n (by omega) (R : Int) (C : Int) 1 (htF _ k17) o7.int (by omega) (by omega)
    have k18 := k17.trans (k8.mono k17.1)
    obtain ⟨h9, e9, k9⟩ := hJ n (by omega) (R : Int) (C : Int) (winL (R : Int) (C : Int) (startL (R : Int) (C : Int)) 1) (htF _ k18) ((o46.keep k7).keep k8).int (by omega) (by omega)
    rw [hjo] at e9
    repeat (first | with_reducible refine wg1 rfl ?_ | with_reducible refine wpT ?_ | with_reducible refine wrB ?_ | with_reducible refine wbd (by assumption) ?_ | dsimp only)
    exact W.ret rfl

end Go.Proofs.YtpaehbfknlpkbabDoor

/- Texts that are cut: where a byte is first, how often it is there, the pieces; the texts of boards, and records that are read. -/
set_option maxRecDepth 20000
namespace Go.Proofs.YtpaehbfknlpkbabDoor
open Go Go.Ip

/-! ### texts of boards -/
end Go.Proofs.YtpaehbfknlpkbabDoor

/- The program's chapter 2: Joins, GapOf, GroupOf, Filled and GapCells compute what the model's do. -/
set_option maxRecDepth 20000
namespace Go.Proofs.YtpaehbfknlpkbabDoor
open Go Go.Ip G

variable (g : Nat → PV) (lf n : Nat)

theorem joinsOk (hlf : 1000 < lf) : JoinsOk g lf := by
  intro N hN r c pl xs p h ht hp hl hf
  obtain ⟨n, rfl⟩ : ∃ n, N = n + 1 := ⟨N - 1, by omega⟩
  have ht' : Tab g h := ht.1
  have hpos := positionOk_N g lf n (by omega) r c hp (by omega) hf
  have hplay := playerOk_W g lf n (by omega) h pl
  have : W (CL g lf (n + 1) fn_impl_Joins [.int .i64 r, .int .i64 c, p, .int .i64 pl] h) fun v h' => v = .bool (joinsL r c xs pl) ∧ Keep h.length h h' := by
    rw [impl_Joins.call_eq]
    unfold impl_Joins.main
    simp only [env_C, env_pick, env_bin, env_un, env_extract]
    unfold joinsL
    cases hb : posB r c xs with
    | false =>
      rw [hb] at hpos
      repeat (first | with_reducible refine wT ?_ | with_reducible refine wg0 rfl ?_ | with_reducible refine wpT ?_ | with_reducible refine wnF ?_ | with_reducible refine wsm ?_ | with_reducible refine wrB ?_ | with_reducible refine wbd (by assumption) ?_ | dsimp only)
      exact W.ret ⟨rfl, Keep.refl _ _⟩
    | true =>
      rw [hb] at hpos
      cases hpl : playerB pl with
      | false =>
        rw [hpl] at hplay
        repeat (first | with_reducible refine wT ?_ | with_reducible refine wg1 rfl ?_ | with_reducible refine wpF ?_ | with_reducible refine wnT ?_ | with_reducible refine wnF ?_ | with_reducible refine wpv ?_ | with_reducible refine wsm ?_ | with_reducible refine wrB ?_ | with_reducible refine wbd (by assumption) ?_ | dsimp only)
        exact W.ret ⟨rfl, Keep.refl _ _⟩
      | true =>
        rw [hpl] at hplay
        obtain ⟨R, C, hS⟩ := sides_of hb
        obtain ⟨P, rfl, hP⟩ := player_of hpl
        have hB := board_of_sides hS
        obtain ⟨rfl, rfl, _, _, _, _, h9, hlen, _⟩ := id hS
        have hst := set_lt9 hS (P : Int)
        have e1 := sidesOf_W g lf hB hP n (by omega) hlf h
        have e2 := setOf_W g lf (P : Int) hp (by omega) n (by omega) hlf
        have s1 := sideN_lt (P := P) (last := false) hB
        have s2 := sideN_lt (P := P) (last := true) hB
        have a1 : sideN R C P false &&& setL xs (P : Int) < 2 ^ 9 := Nat.and_lt_two_pow _ hst
        obtain ⟨h1, e3, k1⟩ := grown_W g lf hB a1 hst n (by omega) hlf ht'
        rw [grown_in] at e3
        have hgl := grow_lt (M := masksN R C) (fr := sideN R C P false) hst
        have hgl2 : growN (masksN R C) (setL xs (P : Int)) (sideN R C P false) &&& sideN R C P true < 2 ^ 9 := Nat.and_lt_two_pow _ s2
        repeat (first | with_reducible refine wF ?_ | with_reducible refine wg1 rfl ?_ | with_reducible refine wpF ?_ | with_reducible refine wnT ?_ | with_reducible refine wpv ?_ | with_reducible refine wsm ?_ | with_reducible refine wx0 ?_ | with_reducible refine wx1 ?_ | with_reducible refine wbd (by assumption) ?_ | with_reducible refine wand (by omega) (by omega) ?_ | dsimp only)
        show W _ fun v h' => v = .bool (true && true && joinsN R C P (setL xs (P : Int))) ∧ Keep h.length h h'
        unfold joinsN
        refine wneq (fun e => ?_) (fun e => ?_)
        · repeat (first | with_reducible refine wrB ?_)
          refine W.ret ⟨?_, k1⟩
          rw [decide_eq_false (by omega)]; rfl
        · repeat (first | with_reducible refine wrB ?_)
          refine W.ret ⟨?_, k1⟩
          rw [decide_eq_true (by omega)]; rfl
  obtain ⟨_, h', e, rfl, k⟩ := this
  exact ⟨h', e, k⟩

end Go.Proofs.YtpaehbfknlpkbabDoor

/- The least cell of a set, as the library finds it by its table of 64 bytes; and comparing a slice with nil, copying it. -/
set_option maxRecDepth 20000
namespace Go.Proofs.YtpaehbfknlpkbabDoor
open Go Go.Ip G

/-- The least number in a set of nine; nine if there is none. -/
def lowN (x : Nat) : Nat := ((List.range 9).find? fun k => x.testBit k).getD 9
def lsB (x : Nat) : Bool := x.testBit (lowN x) && decide (lowN x < 9) && (List.range (lowN x)).all (fun j => !x.testBit j) && (x &&& (x - 1) == without x (lowN x))
theorem ls_all : ((List.range 512).all fun x => x == 0 || lsB x) = true := by kernel_rfl
theorem low_ok {x : Nat} (hx : x < 2 ^ 9) (h0 : x ≠ 0) : x.testBit (lowN x) = true ∧ lowN x < 9 ∧ (∀ j, j < lowN x → x.testBit j = false) ∧ x &&& (x - 1) = without x (lowN x) := by
  have h := List.all_eq_true.1 ls_all x (List.mem_range.2 hx)
  have h1 : lsB x = true := by
    rcases Bool.or_eq_true_iff.1 h with h | h
    · exact absurd (by simpa using h) h0
    · exact h
  unfold lsB at h1
  simp only [Bool.and_eq_true, decide_eq_true_eq, beq_iff_eq] at h1
  obtain ⟨⟨⟨a, b⟩, c⟩, d⟩ := h1
  exact ⟨a, b, fun j hj => by have := List.all_eq_true.1 c j (List.mem_range.2 hj); simpa using this, d⟩

/-- What the library computes, step by step. -/
def isU (o : Option PV) (a : Nat) : Bool := match o with | some (.int .u64 (.ofNat b)) => b == a | _ => false
theorem isU_eq {o : Option PV} {a : Nat} (h : isU o a = true) : o = some (.int .u64 (a : Int)) := by
  unfold isU at h
  split at h
  · have := beq_iff_eq.1 h; subst this; rfl
  · cases h
def tz5 (x : Nat) : Nat := ((1 <<< lowN x) * 285870213051353865) % 2 ^ 64
def tz6 (x : Nat) : Nat := tz5 x / 2 ^ 58
noncomputable def tzB (x : Nat) : Bool := isU (unP .neg (.int .u64 (x : Int))) (2 ^ 64 - x) && (isU (binP Tryd.prog .and 108 (.int .u64 (x : Int)) (.int .u64 ((2 ^ 64 - x : Nat) : Int))) (1 <<< lowN x) &&
  (isU (binP Tryd.prog .mul 108 (.int .u64 ((1 <<< lowN x : Nat) : Int)) (.int .u64 285870213051353865)) (tz5 x) && (isU (binP Tryd.prog .shr 108 (.int .u64 (tz5 x : Int)) (.int .u64 58)) (tz6 x) && tab64N[tz6 x]? == some (lowN x))))
theorem tz_all : ((List.range 512).all fun x => x == 0 || tzB x) = true := by kernel_rfl
theorem tz_one {x : Nat} (hx : x < 2 ^ 9) (h0 : x ≠ 0) : tzB x = true := by
  have h := List.all_eq_true.1 tz_all x (List.mem_range.2 hx)
  rcases Bool.or_eq_true_iff.1 h with h | h
  · exact absurd (beq_iff_eq.1 h) h0
  · exact h
theorem tz_steps {x : Nat} (hx : x < 2 ^ 9) (h0 : x ≠ 0) : ∃ v3 v4 v5, ∃ i : Nat, unP .neg (.int .u64 (x : Int)) = some v3 ∧ binP Tryd.prog .and 108 (.int .u64 (x : Int)) v3 = some v4 ∧ binP Tryd.prog .mul 108 v4 (.int .u64 285870213051353865) = some v5 ∧
    binP Tryd.prog .shr 108 v5 (.int .u64 58) = some (.int .u64 (i : Int)) ∧ tab64N[i]? = some (lowN x) := by
  have h1 := tz_one hx h0
  unfold tzB at h1
  obtain ⟨a, h1⟩ := Bool.and_eq_true_iff.1 h1
  obtain ⟨b, h1⟩ := Bool.and_eq_true_iff.1 h1
  obtain ⟨c, h1⟩ := Bool.and_eq_true_iff.1 h1
  obtain ⟨d, h1⟩ := Bool.and_eq_true_iff.1 h1
  exact ⟨_, _, _, _, isU_eq a, isU_eq b, isU_eq c, isU_eq d, beq_iff_eq.1 h1⟩

theorem tyTzU : Tryd.prog.underlying 118 = some (.array 64 5) := by kernel_rfl
theorem tyTz1 : sizeT Tryd.prog 5 = some 1 := by kernel_rfl
theorem tyTzA : isAggT Tryd.prog 5 = some false := by kernel_rfl
theorem tzConv (l : Nat) (hl : l < 9) : convP Tryd.prog 5 3 (.int .u8 (l : Int)) = some (.int .i64 (l : Int)) := by
  have : convP Tryd.prog 5 3 (.int .u8 (l : Int)) = some (.int .i64 (IntKind.i64.wrap (l : Int))) := by kernel_rfl
  rw [this, wr (by omega)]
theorem tzConv2 (x : Nat) (hx : x < 2 ^ 9) : convP Tryd.prog 3 97 (.int .i64 (x : Int)) = some (.int .u64 (x : Int)) := by
  have : convP Tryd.prog 3 97 (.int .i64 (x : Int)) = some (.int .u64 (IntKind.u64.wrap (x : Int))) := by kernel_rfl
  rw [this]
  have : IntKind.u64.wrap (x : Int) = (x : Int) := by unfold IntKind.wrap; simp [IntKind.bits, IntKind.signed]; omega
  rw [this]

variable (g : Nat → PV) (lf n : Nat)

/-- The library's table is known to lie somewhere. -/
def Big (g : Nat → PV) : Prop := ∃ id, g 3 = .ptr id 0

theorem tz64_W {x : Nat} (hx : x < 2 ^ 9) (h0 : x ≠ 0) (hb : Big g) {h : PHeap} (ht : Tab64 g h) (N : Nat) (hN : 1 ≤ N) : CL g lf N fn_bits_TrailingZeros64 [.int .u64 (x : Int)] h = some (.int .i64 (lowN x : Int), h) := by
  obtain ⟨n, rfl⟩ : ∃ n, N = n + 1 := ⟨N - 1, by omega⟩
  obtain ⟨id, hg⟩ := hb
  have ho := ht id hg
  obtain ⟨v3, v4, v5, i, e3, e4, e5, e6, hi⟩ := tz_steps hx h0
  have hi64 : i < 64 := (List.getElem?_eq_some_iff.1 hi).1
  have e7 : indexAddrP Tryd.prog 118 (.ptr id 0) (.int .u64 (i : Int)) = some (.ptr id i) := by simp [indexAddrP, tyTzU, tyTz1]; omega
  have e8 : loadP Tryd.prog 5 (.ptr id i) h = some (.int .u8 (lowN x : Int)) := by
    simp [loadP, tyTzA, cellsAt, ho, PObj.get, tab64Cells, hi]
  have e9 := tzConv (lowN x) (low_ok hx h0).2.1
  have : W (CL g lf (n + 1) fn_bits_TrailingZeros64 [.int .u64 (x : Int)] h) fun v h' => v = .int .i64 (lowN x : Int) ∧ h' = h := by
    rw [bits_TrailingZeros64.call_eq]
    unfold bits_TrailingZeros64.main
    simp only [env_g, env_load, env_bin, env_un, env_conv, env_indexAddr]
    refine weqlF (by omega) ?_
    rw [hg]
    repeat (first | with_reducible refine wF ?_ | with_reducible refine wrI ?_ | with_reducible refine wbd (by assumption) ?_)
    exact W.ret ⟨rfl, rfl⟩
  obtain ⟨_, _, e, rfl, rfl⟩ := this
  exact e

theorem leastIn_W {x : Nat} (hx : x < 2 ^ 9) (h0 : x ≠ 0) (hb : Big g) {h : PHeap} (ht : Tab64 g h) (N : Nat) (hN : 3 ≤ N) : CL g lf N fn_impl_leastIn [.int .i64 (x : Int)] h = some (.int .i64 (lowN x : Int), h) := by
  obtain ⟨n, rfl⟩ : ∃ n, N = n + 1 := ⟨N - 1, by omega⟩
  obtain ⟨n, rfl⟩ : ∃ m, n = m + 1 := ⟨n - 1, by omega⟩
  have e1 := tzConv2 x hx
  have e2 := tz64_W g lf hx h0 hb ht n (by omega)
  have e3 : CL g lf (n + 1) fn_bits_TrailingZeros [.int .u64 (x : Int)] h = some (.int .i64 (lowN x : Int), h) := by
    have : W (CL g lf (n + 1) fn_bits_TrailingZeros [.int .u64 (x : Int)] h) fun v h' => v = .int .i64 (lowN x : Int) ∧ h' = h := by
      rw [bits_TrailingZeros.call_eq]
      unfold bits_TrailingZeros.main
      simp only [env_C, env_conv]
      repeat (first | with_reducible refine wF ?_ | with_reducible refine wrI ?_ | with_reducible refine wbd (by assumption) ?_ | dsimp only)
      exact W.ret ⟨rfl, rfl⟩
    obtain ⟨_, _, e, rfl, rfl⟩ := this
    exact e
  have : W (CL g lf (n + 1 + 1) fn_impl_leastIn [.int .i64 (x : Int)] h) fun v h' => v = .int .i64 (lowN x : Int) ∧ h' = h := by
    rw [impl_leastIn.call_eq]
    unfold impl_leastIn.main
    simp only [env_C, env_conv]
    repeat (first | with_reducible refine wrI ?_ | with_reducible refine wbd (by assumption) ?_ | dsimp only)
    exact W.ret ⟨rfl, rfl⟩
  obtain ⟨_, _, e, rfl, rfl⟩ := this
  exact e

/-- What a set loses with its least cell. -/
theorem f_drop {x : Nat} (hx : x < 2 ^ 9) (h0 : x ≠ 0) : binP Tryd.prog .sub 3 (.int .i64 (x : Int)) (.int .i64 1) = some (.int .i64 ((x - 1 : Nat) : Int)) ∧ binP Tryd.prog .and 3 (.int .i64 (x : Int)) (.int .i64 ((x - 1 : Nat) : Int)) = some (.int .i64 (without x (lowN x) : Int)) := by
  refine ⟨by rw [bin_sub, wr (by omega), show (x : Int) - 1 = ((x - 1 : Nat) : Int) by omega], ?_⟩
  rw [f_and (by omega) (by omega), (low_ok hx h0).2.2.2]
theorem without_lt9 {x k : Nat} (hx : x < 2 ^ 9) : without x k < 2 ^ 9 := by rw [← minusN_one]; exact minusN_lt hx
theorem without_less {x : Nat} (hx : x < 2 ^ 9) (h0 : x ≠ 0) : without x (lowN x) < x := by
  have h := (low_ok hx h0).2.2.2
  rw [← h]
  have : x &&& (x - 1) ≤ x - 1 := Nat.and_le_right
  omega

/-! ### slices.Clone -/
theorem tySlB : isSliceT Tryd.prog 23 = true := by kernel_rfl
theorem wnilF {Q : PV → PHeap → Prop} {f : PV → Res} {i o l : Nat} (hf : W (f (.bool false)) Q) : W ((binP Tryd.prog .eql 23 (.sl i o l) .nilsl).bind f) Q := wbd (by simp [binP, tySlB]) hf

end Go.Proofs.YtpaehbfknlpkbabDoor

/- The program's search: structs and a map on the interpreter's heap; the sets' joining; what stands after a move. -/
set_option maxRecDepth 20000
namespace Go.Proofs.YtpaehbfknlpkbabDoor
open Go Go.Ip G

/-! ### objects by themselves, and what keeps all but one -/
def At (h : PHeap) (id : Nat) (l : List PV) : Prop := h[id]? = some (.own 1 l)
theorem At.lt {h : PHeap} {id : Nat} {l : List PV} (a : At h id l) : id < h.length := (List.getElem?_eq_some_iff.1 a).1
/-- All is as it was but the object m, and what is behind. -/
def KB (m : Nat) (h h' : PHeap) : Prop := h.length ≤ h'.length ∧ ∀ i, i < h.length → i ≠ m → h'[i]? = h[i]?
theorem KB.refl (m : Nat) (h : PHeap) : KB m h h := ⟨Nat.le_refl _, fun _ _ _ => rfl⟩
theorem KB.trans {m : Nat} {a b c : PHeap} (h : KB m a b) (k : KB m b c) : KB m a c := ⟨Nat.le_trans h.1 k.1, fun i hi hn => (k.2 i (Nat.lt_of_lt_of_le hi h.1) hn).trans (h.2 i hi hn)⟩
theorem Keep.kb {m : Nat} {a b : PHeap} (h : Keep a.length a b) : KB m a b := ⟨h.1, fun i hi _ => h.2 i hi⟩
theorem KB.keep {m n : Nat} {a b : PHeap} (h : KB m a b) (hm : n ≤ m) (hn : n ≤ a.length) : Keep n a b := ⟨h.1, fun i hi => h.2 i (Nat.lt_of_lt_of_le hi hn) (by omega)⟩
theorem At.keep {h h' : PHeap} {id : Nat} {l : List PV} (a : At h id l) (k : Keep h.length h h') : At h' id l := by unfold At; rw [k.2 id a.lt]; exact a
theorem At.kb {h h' : PHeap} {id m : Nat} {l : List PV} (a : At h id l) (k : KB m h h') (hn : id ≠ m) : At h' id l := by unfold At; rw [k.2 id a.lt hn]; exact a
def MapAt (h : PHeap) (m : Nat) (es : List (PV × PV)) : Prop := h[m]? = some (.mp es)
theorem MapAt.lt {h : PHeap} {m : Nat} {es : List (PV × PV)} (a : MapAt h m es) : m < h.length := (List.getElem?_eq_some_iff.1 a).1
theorem MapAt.keep {h h' : PHeap} {m : Nat} {es : List (PV × PV)} (a : MapAt h m es) (k : Keep h.length h h') : MapAt h' m es := by unfold MapAt; rw [k.2 m a.lt]; exact a
theorem MapAt.kb {h h' : PHeap} {id m : Nat} {es : List (PV × PV)} (a : MapAt h m es) (k : KB id h h') (hn : m ≠ id) : MapAt h' m es := by unfold MapAt; rw [k.2 m a.lt hn]; exact a
theorem At.ne {h : PHeap} {id m : Nat} {l : List PV} {es : List (PV × PV)} (a : At h id l) (b : MapAt h m es) : id ≠ m := by
  intro e; subst e; unfold At at a; unfold MapAt at b; rw [a] at b; cases b
theorem Fix.kb {b m : Nat} {h h' : PHeap} {p : PV} {xs : List Int} (s : Fix b h p xs) (k : KB m h h') (hb : b ≤ m) (hb2 : b ≤ h.length) : Fix b h' p xs := s.keep (k.keep hb hb2)

section
variable {Q : PV → PHeap → Prop} {h : PHeap}
/-- A new object. -/
theorem wnew {l : List PV} {x : Res} {f : PV × PHeap → Res} (hx : x = some (.ptr h.length 0, h ++ [.own 1 l])) (hf : ∀ h' id, At h' id l → Keep h.length h h' → h.length ≤ id → W (f (.ptr id 0, h')) Q) : W (x.bind f) Q := by
  rw [hx]
  exact hf _ _ (by unfold At; simp) (Keep.append _ _ _ (Nat.le_refl _)) (Nat.le_refl _)
/-- An object is written to. -/
theorem put_at {id : Nat} {l l' : List PV} (a : At h id l) : At (h.set id (.own 1 l')) id l' ∧ KB id h (h.set id (.own 1 l')) := by
  refine ⟨by unfold At; rw [List.getElem?_set_self a.lt], by simp, fun i _ hn => List.getElem?_set_ne (by omega)⟩
end

/-! ### types -/
theorem tyStA : isAggT Tryd.prog 66 = some true := by kernel_rfl
theorem tySt4 : sizeT Tryd.prog 66 = some 4 := by kernel_rfl
theorem tyStZ : zeroCellsT Tryd.prog 66 = some [.int .i64 0, .int .i64 0, .int .i64 0, .int .i64 0] := by kernel_rfl
theorem tyA3 : Tryd.prog.underlying 64 = some (.array 3 3) := by kernel_rfl
theorem tyA9 : Tryd.prog.underlying 84 = some (.array 9 3) := by kernel_rfl
theorem tyMp : Tryd.prog.underlying 83 = some (.map 66 3) := by kernel_rfl
theorem tyMpA : isAggT Tryd.prog 83 = some false := by kernel_rfl
theorem fSt0 (id : Nat) : fieldAddrP Tryd.prog 66 (.ptr id 0) 0 = some (.ptr id 0) := by kernel_rfl
theorem fSt1 (id : Nat) : fieldAddrP Tryd.prog 66 (.ptr id 0) 1 = some (.ptr id 3) := by kernel_rfl
theorem fs0 (id : Nat) : fieldAddrP Tryd.prog 86 (.ptr id 0) 0 = some (.ptr id 0) := by kernel_rfl
theorem fs1 (id : Nat) : fieldAddrP Tryd.prog 86 (.ptr id 0) 1 = some (.ptr id 9) := by kernel_rfl
theorem fs2 (id : Nat) : fieldAddrP Tryd.prog 86 (.ptr id 0) 2 = some (.ptr id 12) := by kernel_rfl
theorem fs3 (id : Nat) : fieldAddrP Tryd.prog 86 (.ptr id 0) 3 = some (.ptr id 15) := by kernel_rfl
theorem ia3 (id o i : Nat) (hi : i < 3) : indexAddrP Tryd.prog 64 (.ptr id o) (.int .i64 (i : Int)) = some (.ptr id (o + i)) := by simp [indexAddrP, tyA3, tySize]; omega
theorem ia9 (id o i : Nat) (hi : i < 9) : indexAddrP Tryd.prog 84 (.ptr id o) (.int .i64 (i : Int)) = some (.ptr id (o + i)) := by simp [indexAddrP, tyA9, tySize]; omega
theorem ld1 {h : PHeap} {id i : Nat} {l : List PV} {v : PV} (a : At h id l) (hv : l[i]? = some v) : loadP Tryd.prog 3 (.ptr id i) h = some v := by
  simp [loadP, tyAgg, cellsAt, show h[id]? = some (.own 1 l) from a, PObj.get, hv]
theorem ldM {h : PHeap} {id i : Nat} {l : List PV} {v : PV} (a : At h id l) (hv : l[i]? = some v) : loadP Tryd.prog 83 (.ptr id i) h = some v := by
  simp [loadP, tyMpA, cellsAt, show h[id]? = some (.own 1 l) from a, PObj.get, hv]
theorem st1 {h : PHeap} {id i : Nat} {l : List PV} {x : Int} (a : At h id l) (hi : i < l.length) : storeP Tryd.prog 3 (.ptr id i) (.int .i64 x) h = some (h.set id (.own 1 (l.set i (.int .i64 x)))) := by
  simp [storeP, show h[id]? = some (.own 1 l) from a, PV.cells, tySize, setCells]; omega

/-! ### what stands -/
def stC (f a b t : Nat) : List PV := [.int .i64 (f : Int), .int .i64 (a : Int), .int .i64 (b : Int), .int .i64 (t : Int)]
def stP (f a b t : Nat) : PV := .agg (stC f a b t)
theorem ldS {h : PHeap} {id f a b t : Nat} (o : At h id (stC f a b t)) : loadP Tryd.prog 66 (.ptr id 0) h = some (stP f a b t) := by
  simp [loadP, tyStA, tySt4, cellsAt, show h[id]? = some (.own 1 (stC f a b t)) from o, PObj.get, stC, stP]
theorem boxS (h : PHeap) (f a b t : Nat) : boxP (stP f a b t) h = some (.ptr h.length 0, h ++ [.own 1 (stC f a b t)]) := by simp [boxP, stP, stC, PV.cells, PV.oneCell]
theorem alS (h : PHeap) : allocP Tryd.prog 66 h = some (.ptr h.length 0, h ++ [.own 1 (stC 0 0 0 0)]) := by simp [allocP, tyStZ, stC]
theorem stS {h : PHeap} {id f a b t f' a' b' t' : Nat} (o : At h id (stC f' a' b' t')) : storeP Tryd.prog 66 (.ptr id 0) (stP f a b t) h = some (h.set id (.own 1 (stC f a b t))) := by
  simp [storeP, show h[id]? = some (.own 1 (stC f' a' b' t')) from o, stP, stC, PV.cells, PV.oneCell, tySt4, setCells]
theorem plainS {f a b t : Nat} : plainEq (stP f a b t) (stP f a b t) = true := plain_agg4

section
variable {Q : PV → PHeap → Prop} {h : PHeap} {id f a b t : Nat}
theorem wboxS {F : PV × PHeap → Res} (hf : ∀ h' id, At h' id (stC f a b t) → Keep h.length h h' → h.length ≤ id → W (F (.ptr id 0, h')) Q) : W ((boxP (stP f a b t) h).bind F) Q := wnew (boxS h f a b t) hf
theorem walS {F : PV × PHeap → Res} (hf : ∀ h' id, At h' id (stC 0 0 0 0) → Keep h.length h h' → h.length ≤ id → W (F (.ptr id 0, h')) Q) : W ((allocP Tryd.prog 66 h).bind F) Q := wnew (alS h) hf
theorem wstS {f' a' b' t' : Nat} (o : At h id (stC f' a' b' t')) {F : PHeap → Res} (hf : ∀ h', At h' id (stC f a b t) → KB id h h' → W (F h') Q) : W ((storeP Tryd.prog 66 (.ptr id 0) (stP f a b t) h).bind F) Q := by
  rw [stS o]; exact hf _ (put_at o).1 (put_at o).2
theorem wst1 {i : Nat} {l : List PV} {x : Int} (o : At h id l) (hi : i < l.length) {F : PHeap → Res} (hf : ∀ h', At h' id (l.set i (.int .i64 x)) → KB id h h' → W (F h') Q) : W ((storeP Tryd.prog 3 (.ptr id i) (.int .i64 x) h).bind F) Q := by
  rw [st1 o hi]; exact hf _ (put_at o).1 (put_at o).2
theorem wia3 {o i : Nat} (hi : i < 3) {F : PV → Res} (hf : W (F (.ptr id (o + i))) Q) : W ((indexAddrP Tryd.prog 64 (.ptr id o) (.int .i64 (i : Int))).bind F) Q := wbd (ia3 id o i hi) hf
theorem wia9 {o i : Nat} (hi : i < 9) {F : PV → Res} (hf : W (F (.ptr id (o + i))) Q) : W ((indexAddrP Tryd.prog 84 (.ptr id o) (.int .i64 (i : Int))).bind F) Q := wbd (ia9 id o i hi) hf
end

variable (g : Nat → PV) (lf n : Nat)

theorem exchanged_W (N : Nat) (hN : 1 ≤ N) (h : PHeap) {T : Nat} (hT : T = 1 ∨ T = 2) : CL g lf N fn_impl_exchanged [.int .i64 (T : Int)] h = some (.int .i64 ((3 - T : Nat) : Int), h) := by
  obtain ⟨n, rfl⟩ : ∃ n, N = n + 1 := ⟨N - 1, by omega⟩
  have : W (CL g lf (n + 1) fn_impl_exchanged [.int .i64 (T : Int)] h) fun v h' => v = .int .i64 ((3 - T : Nat) : Int) ∧ h' = h := by
    rw [impl_exchanged.call_eq]
    unfold impl_exchanged.main
    simp only [env_bin]
    rcases hT with rfl | rfl
    · repeat (first | with_reducible refine wT ?_ | with_reducible refine wrI ?_ | with_reducible refine weqlT (by omega) ?_)
      exact W.ret ⟨rfl, rfl⟩
    · repeat (first | with_reducible refine wT ?_ | with_reducible refine wF ?_ | with_reducible refine wrI ?_ | with_reducible refine weqlT (by omega) ?_ | with_reducible refine weqlF (by omega) ?_)
      exact W.ret ⟨rfl, rfl⟩
  obtain ⟨_, _, e, rfl, rfl⟩ := this
  exact e

theorem Keep.kbs {n m : Nat} {a b c : PHeap} (k : Keep n a b) (hn : n ≤ a.length) (k' : KB m b c) (hm : n ≤ m) : Keep n a c := k.trans (k'.keep hm (Nat.le_trans hn k.1))
theorem wia30 {Q : PV → PHeap → Prop} {id o : Nat} {F : PV → Res} (hf : W (F (.ptr id (o + 0))) Q) : W ((indexAddrP Tryd.prog 64 (.ptr id o) (.int .i64 0)).bind F) Q := wbd (ia3 id o 0 (by decide)) hf

theorem after_W {f a b t k : Nat} (hf : f < 2 ^ 9) (ha : a < 2 ^ 9) (hb : b < 2 ^ 9) (hk : k < 9) (ht : t = 1 ∨ t = 2) (N : Nat) (hN : 2 ≤ N) (h : PHeap) :
    W (CL g lf N fn_impl_standing_after [stP f a b t, .int .i64 (k : Int)] h) fun v h' => v = stP (without f k) (putA t k a) (putB t k b) (3 - t) ∧ Keep h.length h h' := by
  obtain ⟨n, rfl⟩ : ∃ n, N = n + 1 := ⟨N - 1, by omega⟩
  have hsl := shl_lt hk
  have e1 : ∀ h, CL g lf n fn_impl_exchanged [.int .i64 (t : Int)] h = some (.int .i64 ((3 - t : Nat) : Int), h) := fun h => exchanged_W g lf n (by omega) h ht
  rw [impl_standing_after.call_eq]
  unfold impl_standing_after.main
  simp only [env_C, env_alloc, env_box, env_load, env_store, env_bin, env_fieldAddr, env_indexAddr]
  refine wboxS fun h1 id o1 k1 l1 => ?_
  dsimp only
  refine walS fun h2 id2 o2 k2 l2 => ?_
  have o1' := o1.keep k2
  have hne : id2 ≠ id := by have := o1.lt; omega
  have kk2 : Keep h.length h h2 := k1.trans (k2.mono k1.1)
  repeat (first | (with_reducible refine wbd (fSt0 _) ?_) | (with_reducible refine wia30 ?_) | (with_reducible refine wbd (ld1 (by assumption) rfl) ?_) | with_reducible refine wshl (by omega) ?_ | with_reducible refine wandNot (by omega) (by omega) ?_ | dsimp only)
  refine wst1 o1' (show 0 + 0 < 4 by decide) fun h3 o3 k3 => ?_
  have o3 : At h3 id (stC (without f k) a b t) := o3
  have o23 := o2.kb k3 hne
  rcases ht with rfl | rfl
  · repeat (first | (with_reducible refine wbd (fSt0 _) ?_) | (with_reducible refine wbd (fSt1 _) ?_) | (with_reducible refine wia3 (by omega) ?_) | (with_reducible refine wbd (ld1 (by assumption) rfl) ?_) | with_reducible refine wshl (by omega) ?_ | with_reducible refine wor (by omega) (by omega) ?_)
    refine wst1 o3 (show 0 + 1 < 4 by decide) fun h4 o4 k4 => ?_
    have o4 : At h4 id (stC (without f k) (a ||| 1 <<< k) b 1) := o4
    have o24 := o23.kb k4 hne
    have e2 := e1 h4
    repeat (first | with_reducible refine wbd (by assumption) ?_ | (with_reducible refine wbd (fSt1 _) ?_) | (with_reducible refine wbd (ld1 (by assumption) rfl) ?_) | dsimp only)
    refine wst1 o4 (show 3 < 4 by decide) fun h5 o5 k5 => ?_
    have o5 : At h5 id (stC (without f k) (a ||| 1 <<< k) b (3 - 1)) := o5
    have o25 := o24.kb k5 hne
    repeat (first | (with_reducible refine wbd (ldS (by assumption)) ?_))
    refine wstS o25 fun h6 o6 k6 => ?_
    repeat (first | (with_reducible refine wbd (ldS (by assumption)) ?_))
    exact W.ret ⟨rfl, (((kk2.kbs (Nat.le_refl _) k3 l1).kbs (Nat.le_refl _) k4 l1).kbs (Nat.le_refl _) k5 l1).kbs (Nat.le_refl _) k6 (Nat.le_trans k1.1 l2)⟩
  · repeat (first | (with_reducible refine wbd (fSt0 _) ?_) | (with_reducible refine wbd (fSt1 _) ?_) | (with_reducible refine wia3 (by omega) ?_) | (with_reducible refine wbd (ld1 (by assumption) rfl) ?_) | with_reducible refine wshl (by omega) ?_ | with_reducible refine wor (by omega) (by omega) ?_)
    refine wst1 o3 (show 0 + 2 < 4 by decide) fun h4 o4 k4 => ?_
    have o4 : At h4 id (stC (without f k) a (b ||| 1 <<< k) 2) := o4
    have o24 := o23.kb k4 hne
    have e2 := e1 h4
    repeat (first | with_reducible refine wbd (by assumption) ?_ | (with_reducible refine wbd (fSt1 _) ?_) | (with_reducible refine wbd (ld1 (by assumption) rfl) ?_) | dsimp only)
    refine wst1 o4 (show 3 < 4 by decide) fun h5 o5 k5 => ?_
    have o5 : At h5 id (stC (without f k) a (b ||| 1 <<< k) (3 - 2)) := o5
    have o25 := o24.kb k5 hne
    repeat (first | (with_reducible refine wbd (ldS (by assumption)) ?_))
    refine wstS o25 fun h6 o6 k6 => ?_
    repeat (first | (with_reducible refine wbd (ldS (by assumption)) ?_))
    exact W.ret ⟨rfl, (((kk2.kbs (Nat.le_refl _) k3 l1).kbs (Nat.le_refl _) k4 l1).kbs (Nat.le_refl _) k5 l1).kbs (Nat.le_refl _) k6 (Nat.le_trans k1.1 l2)⟩

/-! ### a board's search -/
def nearV (R C j : Nat) : Nat := if j < R * C then wideN R C (1 <<< j) else 0
def srchV (R C : Nat) : List Nat := (List.range 9).map (nearV R C) ++ [0, sideN R C 1 false, sideN R C 2 false, 0, sideN R C 1 true, sideN R C 2 true]
def srchC (R C m : Nat) : List PV := (srchV R C).map (fun x : Nat => .int .i64 (x : Int)) ++ [.mapv m]
theorem srch_near (R C m k : Nat) (hk : k < 9) : (srchC R C m)[0 + k]? = some (.int .i64 (nearV R C k : Int)) := by
  rw [Nat.zero_add]
  unfold srchC srchV
  rw [List.map_append, List.append_assoc, List.getElem?_append_left (by simp; omega)]
  simp [hk]
theorem srch_first (R C m : Nat) {P : Nat} (hP : P = 1 ∨ P = 2) : (srchC R C m)[9 + P]? = some (.int .i64 (sideN R C P false : Int)) := by
  rcases hP with rfl | rfl <;> rfl
theorem srch_last (R C m : Nat) {P : Nat} (hP : P = 1 ∨ P = 2) : (srchC R C m)[12 + P]? = some (.int .i64 (sideN R C P true : Int)) := by
  rcases hP with rfl | rfl <;> rfl
theorem srch_map (R C m : Nat) : (srchC R C m)[15]? = some (.mapv m) := rfl

theorem nearV_lt {R C j : Nat} (hB : BoardOf R C) (hj : j < 9) : nearV R C j < 2 ^ 9 := by
  unfold nearV; split
  · exact wide_lt hB (shl_lt hj)
  · decide
theorem nearV_bit {R C k j : Nat} (hB : BoardOf R C) (hk : k < R * C) : (nearV R C k).testBit j = true ↔ j = k ∨ Adj (masksN R C) k j := by
  unfold nearV
  rw [if_pos hk, wide_bit hB, one_bit]
  constructor
  · rintro (h | ⟨i, h1, h2⟩)
    · exact .inl (by simpa using h)
    · rw [one_bit] at h1
      have : i = k := by simpa using h1
      exact .inr (this ▸ h2)
  · rintro (h | h)
    · exact .inl (by simpa using h)
    · exact .inr ⟨k, by rw [one_bit]; simp, h⟩
theorem bit_lt {x n j : Nat} (hx : x < 2 ^ n) (hj : x.testBit j = true) : j < n := by
  apply Classical.byContradiction
  intro hn
  rw [Nat.testBit_lt_two_pow (Nat.lt_of_lt_of_le hx (Nat.pow_le_pow_right (by decide) (by omega)))] at hj; cases hj

theorem joins_W {R C P own : Nat} (hB : BoardOf R C) (hP : P = 1 ∨ P = 2) (hown : own < 2 ^ (R * C)) (hbig : Big g) {h : PHeap} {s m : Nat} (hs : At h s (srchC R C m)) (ht : Tab64 g h) (N : Nat) (hN : 4 ≤ N) (hlf : 1000 < lf) :
    CL g lf N fn_impl_search_joins [.ptr s 0, .int .i64 (own : Int), .int .i64 (P : Int)] h = some (.bool (joinsN R C P own), h) := by
  obtain ⟨n, rfl⟩ : ∃ n, N = n + 1 := ⟨N - 1, by omega⟩
  have h9 := hB.2.2.2.2
  have hown9 : own < 2 ^ 9 := Nat.lt_of_lt_of_le hown (Nat.pow_le_pow_right (by decide) h9)
  have hP3 : P < 3 := by omega
  have s1 := sideN_lt (P := P) (last := false) hB
  have s2 := sideN_lt (P := P) (last := true) hB
  have hS9 : own &&& sideN R C P false < 2 ^ 9 := Nat.and_lt_two_pow _ s1
  have : W (CL g lf (n + 1) fn_impl_search_joins [.ptr s 0, .int .i64 (own : Int), .int .i64 (P : Int)] h) fun v h' => v = .bool (joinsN R C P own) ∧ h' = h := by
    rw [impl_search_joins.call_eq]
    unfold impl_search_joins.main
    simp only [env_lf, env_load, env_ptr, env_bin, env_fieldAddr, env_indexAddr]
    repeat (first | with_reducible refine wptr ?_ | (with_reducible refine wbd (fs1 _) ?_) | (with_reducible refine wia3 (by omega) ?_) | (with_reducible refine wbd (ld1 (by assumption) (srch_first _ _ _ hP)) ?_) | with_reducible refine wand (by omega) (by omega) ?_)
    obtain ⟨S, hS⟩ : ∃ S, S = own &&& sideN R C P false := ⟨_, rfl⟩
    rw [← hS] at hS9 ⊢
    have hSo : ∀ j, S.testBit j = true → own.testBit j = true := fun j hj => by
      rw [hS, Nat.testBit_and, Bool.and_eq_true] at hj; exact hj.1
    refine loopW (fun m' st => ∃ X w : Nat, st = impl_search_joins.st0 (.ptr s 0) (.int .i64 (own : Int)) (.int .i64 (P : Int)) (.int .i64 (X : Int)) (.int .i64 (w : Int)) h ∧ X < 2 ^ 9 ∧ (∀ j, w.testBit j = true → X.testBit j = true) ∧ (∀ j, X.testBit j = true → own.testBit j = true) ∧
      (∀ j, S.testBit j = true → X.testBit j = true) ∧ (∀ j, X.testBit j = true → Reach (masksN R C) (S ||| own) S j) ∧ (∀ k j, X.testBit k = true → w.testBit k = false → Adj (masksN R C) k j → own.testBit j = true → X.testBit j = true) ∧ m' = (512 - X) + (if w = 0 then 0 else 1)) ?_ lf (512 - S + (if S = 0 then 0 else 1)) _ (by split <;> omega)
      ⟨S, S, rfl, hS9, fun _ h => h, hSo, fun _ h => h, fun j hj => .start hj (by rw [Nat.testBit_or, hj]; rfl), fun k j h1 h2 _ _ => (by rw [h1] at h2; cases h2), rfl⟩
    rintro n1 m1 st ⟨X, w, rfl, hX, hw, hXo, hSX, hXr, hc, hm⟩ next
    rw [impl_search_joins.body0_eq]
    unfold impl_search_joins.body0
    simp only [env_lf, env_bin]
    by_cases e : w = 0
    · subst e
      repeat (first | with_reducible refine wF ?_ | with_reducible refine wptr ?_ | (with_reducible refine wbd (fs2 _) ?_) | (with_reducible refine wia3 (by omega) ?_) | (with_reducible refine wbd (ld1 (by assumption) (srch_last _ _ _ hP)) ?_) | with_reducible refine wand (by omega) (by omega) ?_ | with_reducible refine wneqF (by omega) ?_ | rw [kLoop_exit] | rw [impl_search_joins.after0_se0_0_1_2_7_8_21] | simp only [env_C, env_Y, env_g, env_lf, env_pick, env_alloc, env_box, env_build, env_buildSlice, env_load, env_store, env_ptr, env_bin, env_un, env_conv, env_make, env_slice, env_fieldAddr, env_field, env_indexAddr, env_index, env_extract, env_len, env_append, env_max, env_min, env_makeMap, env_lookup, env_update, env_clos, env_bstr, env_ext])
      have hXg : X = growN (masksN R C) own (sideN R C P false) := by
        rw [grown_is hS9 hown9 hSX hXr fun k j h1 h2 h3 => hc k j h1 (Nat.zero_testBit _) h2 h3, hS, Nat.and_comm]
        exact grown_in
      unfold joinsN
      rw [← hXg]
      refine wneq (fun e => ?_) (fun e => ?_)
      · repeat (first | with_reducible refine wrB ?_)
        refine W.ret ⟨?_, rfl⟩
        rw [decide_eq_false (by omega)]; rfl
      · repeat (first | with_reducible refine wrB ?_)
        refine W.ret ⟨?_, rfl⟩
        rw [decide_eq_true (by omega)]; rfl
    · have hw9 : w < 2 ^ 9 := Nat.lt_of_le_of_lt (sub_le hw) hX
      have hwc : ∀ k, w.testBit k = true → k < R * C := fun k hk => bit_lt hown (hXo k (hw k hk))
      repeat (first | with_reducible refine wT ?_ | with_reducible refine wneqT (by omega) ?_)
      refine loopW (fun m' st => ∃ wd r : Nat, st = impl_search_joins.st1 (.ptr s 0) (.int .i64 (own : Int)) (.int .i64 (P : Int)) (.int .i64 (X : Int)) (.int .i64 (wd : Int)) (.int .i64 (r : Int)) h ∧ wd < 2 ^ 9 ∧ r < 2 ^ 9 ∧ (∀ j, r.testBit j = true → w.testBit j = true) ∧
        (∀ j, wd.testBit j = true ↔ ∃ k, w.testBit k = true ∧ r.testBit k = false ∧ (nearV R C k).testBit j = true) ∧ m' = r) ?_ lf w _ (by omega) ⟨0, w, rfl, by decide, hw9, fun _ h => h, fun j => ⟨fun h => (by rw [Nat.zero_testBit] at h; cases h), fun ⟨k, h1, h2, _⟩ => (by rw [h1] at h2; cases h2)⟩, rfl⟩
      rintro n2 m2 st ⟨wd, r, rfl, hwd, hr, hrw, hwb, hm2⟩ next2
      rw [impl_search_joins.body1_eq]
      unfold impl_search_joins.body1
      simp only [env_C, env_load, env_ptr, env_bin, env_fieldAddr, env_indexAddr]
      by_cases e2 : r = 0
      · subst e2
        have hal : wd &&& own < 2 ^ 9 := Nat.and_lt_two_pow _ hown9
        have hml : minusN (wd &&& own) X < 2 ^ 9 := minusN_lt hal
        repeat (first | with_reducible refine wF ?_ | with_reducible refine wand (by omega) (by omega) ?_ | with_reducible refine wor (by omega) (by omega) ?_ | with_reducible refine wandNot (by omega) (by omega) ?_ | with_reducible refine wneqF (by omega) ?_ | rw [kLoop_exit] | rw [impl_search_joins.after1_se2_0_1_2_7_9_10_24] | simp only [env_C, env_Y, env_g, env_lf, env_pick, env_alloc, env_box, env_build, env_buildSlice, env_load, env_store, env_ptr, env_bin, env_un, env_conv, env_make, env_slice, env_fieldAddr, env_field, env_indexAddr, env_index, env_extract, env_len, env_append, env_max, env_min, env_makeMap, env_lookup, env_update, env_clos, env_bstr, env_ext])
        obtain ⟨w', hw'⟩ : ∃ w', w' = minusN (wd &&& own) X := ⟨_, rfl⟩
        have hb : ∀ j, w'.testBit j = true ↔ (w.testBit j = true ∨ ∃ k, w.testBit k = true ∧ Adj (masksN R C) k j) ∧ own.testBit j = true ∧ X.testBit j = false := fun j => by
          have hwj : wd.testBit j = true ↔ (w.testBit j = true ∨ ∃ k, w.testBit k = true ∧ Adj (masksN R C) k j) := by
            rw [hwb]
            constructor
            · rintro ⟨k, h1, _, h2⟩
              rcases (nearV_bit hB (hwc k h1)).1 h2 with rfl | h3
              · exact .inl h1
              · exact .inr ⟨k, h1, h3⟩
            · rintro (h1 | ⟨k, h1, h3⟩)
              · exact ⟨j, h1, Nat.zero_testBit _, (nearV_bit hB (hwc j h1)).2 (.inl rfl)⟩
              · exact ⟨k, h1, Nat.zero_testBit _, (nearV_bit hB (hwc k h1)).2 (.inr h3)⟩
          rw [← hwj, hw', minusN_bit, Nat.testBit_and]; cases wd.testBit j <;> cases own.testBit j <;> cases X.testBit j <;> simp
        rw [← hw'] at hml ⊢
        have hor : X ||| w' < 2 ^ 9 := Nat.or_lt_two_pow hX hml
        have hle : X ≤ X ||| w' := Nat.left_le_or
        have hne : w' ≠ 0 → X ≠ X ||| w' := fun hz he => by
          obtain ⟨j, hj⟩ := bit_of_ne hz
          have h1 := ((hb j).1 hj).2.2
          rw [he, Nat.testBit_or, hj, Bool.or_true] at h1; cases h1
        refine next _ _ ?_ ⟨X ||| w', w', rfl, hor, fun j hj => by rw [Nat.testBit_or, hj, Bool.or_true], fun j hj => ?_, fun j hj => by rw [Nat.testBit_or, hSX j hj, Bool.true_or], ?_, ?_, rfl⟩
        · rw [hm, if_neg e]
          by_cases e' : w' = 0
          · rw [if_pos e']; omega
          · rw [if_neg e']; have := hne e'; omega
        · rw [Nat.testBit_or, Bool.or_eq_true] at hj
          rcases hj with hj | hj
          · exact hXo j hj
          · exact ((hb j).1 hj).2.1
        · intro j hj
          rw [Nat.testBit_or, Bool.or_eq_true] at hj
          rcases hj with hj | hj
          · exact hXr j hj
          · obtain ⟨h1 | ⟨k, h1, h2⟩, h3, h4⟩ := (hb j).1 hj
            · rw [hw j h1] at h4; cases h4
            · exact .step (hXr k (hw k h1)) h2 (by rw [Nat.testBit_or, h3, Bool.or_true])
        · intro k j h1 h2 h3 h4
          rw [Nat.testBit_or, h2, Bool.or_false] at h1
          rw [Nat.testBit_or]
          by_cases hk : w.testBit k = true
          · cases hx : X.testBit j with
            | true => rfl
            | false => rw [(hb j).2 ⟨.inr ⟨k, hk, h3⟩, h4, hx⟩]; rfl
          · rw [hc k j h1 (by simpa using hk) h3 h4]; rfl
      · have el := leastIn_W g lf hr e2 hbig ht n (by omega)
        obtain ⟨l1, l2, l3, l4⟩ := low_ok hr e2
        obtain ⟨d1, d2⟩ := f_drop hr e2
        have hlt := without_less hr e2
        have hwl := without_lt9 (k := lowN r) hr
        obtain ⟨k, hk⟩ : ∃ k, k = lowN r := ⟨_, rfl⟩
        rw [← hk] at el l1 l2 d2 hlt hwl
        have hnv := nearV_lt hB l2
        have hwr := hrw k l1
        repeat (first | with_reducible refine wT ?_ | with_reducible refine wptr ?_ | with_reducible refine wbd (by assumption) ?_ | (with_reducible refine wbd (fs0 _) ?_) | (with_reducible refine wia9 l2 ?_) | (with_reducible refine wbd (ld1 (by assumption) (srch_near _ _ _ _ l2)) ?_) | with_reducible refine wor (by omega) (by omega) ?_ | with_reducible refine wneqT (by omega) ?_ | dsimp only)
        refine next2 _ _ (hm2 ▸ hlt) ⟨_, _, rfl, Nat.or_lt_two_pow hwd hnv, hwl, fun j hj => ?_, fun j => ?_, rfl⟩
        · rw [without_bit, Bool.and_eq_true] at hj; exact hrw j hj.1
        · rw [Nat.testBit_or, Bool.or_eq_true, hwb]
          constructor
          · rintro (⟨i, h1, h2, h3⟩ | h1)
            · exact ⟨i, h1, by rw [without_bit, h2]; rfl, h3⟩
            · exact ⟨k, hwr, by rw [without_bit]; simp, h1⟩
          · rintro ⟨i, h1, h2, h3⟩
            by_cases hik : i = k
            · subst hik; exact .inr h3
            · rw [without_bit] at h2
              simp only [ne_eq, hik, not_false_eq_true, decide_true, Bool.and_true] at h2
              exact .inl ⟨i, h1, h2, h3⟩
  obtain ⟨_, _, e, rfl, rfl⟩ := this
  exact e

def whoN (R C a b : Nat) : Nat := if joinsN R C 1 a = true then 1 else if joinsN R C 2 b = true then 2 else 0

theorem joined_W {R C f a b t : Nat} (hB : BoardOf R C) (hp : Pos R C a b) (hbig : Big g) {h : PHeap} {s m : Nat} (hs : At h s (srchC R C m)) (ht : Tab64 g h) (N : Nat) (hN : 5 ≤ N) (hlf : 1000 < lf) :
    ∃ h', CL g lf N fn_impl_search_joined [.ptr s 0, stP f a b t] h = some (.int .i64 (whoN R C a b : Int), h') ∧ Keep h.length h h' := by
  obtain ⟨n, rfl⟩ : ∃ n, N = n + 1 := ⟨N - 1, by omega⟩
  have : W (CL g lf (n + 1) fn_impl_search_joined [.ptr s 0, stP f a b t] h) fun v h' => v = .int .i64 (whoN R C a b : Int) ∧ Keep h.length h h' := by
    rw [impl_search_joined.call_eq]
    unfold impl_search_joined.main
    simp only [env_lf, env_box]
    refine wboxS fun h1 id o1 k1 l1 => ?_
    have hs1 := hs.keep k1
    have e1 := joins_W g lf hB (P := 1) (.inl rfl) hp.1 hbig hs1 (ht.keep k1) n (by omega) hlf
    have e2 := joins_W g lf hB (P := 2) (.inr rfl) hp.2.1 hbig hs1 (ht.keep k1) n (by omega) hlf
    refine loopW (fun m' st => ∃ P : Nat, st = impl_search_joined.st0 (.ptr s 0) (.ptr id 0) (.int .i64 (P : Int)) h1 ∧ P + m' = 3 ∧ 1 ≤ P ∧ (2 ≤ P → joinsN R C 1 a = false) ∧ (3 ≤ P → joinsN R C 2 b = false)) ?_ lf 2 _ (by omega) ⟨1, rfl, rfl, by decide, by omega, by omega⟩
    rintro n1 m1 st ⟨P, rfl, hm, hP1, j1, j2⟩ next
    rw [impl_search_joined.body0_eq]
    unfold impl_search_joined.body0
    simp only [env_C, env_load, env_bin, env_fieldAddr, env_indexAddr]
    have hP : P = 1 ∨ P = 2 ∨ P = 3 := by omega
    rcases hP with rfl | rfl | rfl
    · cases hj : joinsN R C 1 a with
      | true =>
        rw [hj] at e1
        repeat (first | with_reducible refine wT ?_ | with_reducible refine wrI ?_ | with_reducible refine wbd (by assumption) ?_ | (with_reducible refine wbd (fSt0 _) ?_) | (with_reducible refine wia3 (by omega) ?_) | (with_reducible refine wbd (ld1 (by assumption) rfl) ?_) | with_reducible refine wleqT (by omega) ?_ | rw [kLoop_ret] | rw [impl_search_joined.K0_ret] | rw [impl_search_joined.top_sr_4] | dsimp only)
        exact W.ret ⟨by unfold whoN; rw [hj]; rfl, k1⟩
      | false =>
        rw [hj] at e1
        repeat (first | with_reducible refine wT ?_ | with_reducible refine wF ?_ | with_reducible refine wbd (by assumption) ?_ | (with_reducible refine wbd (fSt0 _) ?_) | (with_reducible refine wia3 (by omega) ?_) | (with_reducible refine wbd (ld1 (by assumption) rfl) ?_) | with_reducible refine wadd1 (by omega) ?_ | with_reducible refine wleqT (by omega) ?_ | dsimp only)
        exact next _ _ (show 1 < m1 by omega) ⟨2, rfl, rfl, by decide, fun _ => hj, by omega⟩
    · cases hj : joinsN R C 2 b with
      | true =>
        rw [hj] at e2
        repeat (first | with_reducible refine wT ?_ | with_reducible refine wrI ?_ | with_reducible refine wbd (by assumption) ?_ | (with_reducible refine wbd (fSt0 _) ?_) | (with_reducible refine wia3 (by omega) ?_) | (with_reducible refine wbd (ld1 (by assumption) rfl) ?_) | with_reducible refine wleqT (by omega) ?_ | rw [kLoop_ret] | rw [impl_search_joined.K0_ret] | rw [impl_search_joined.top_sr_4] | dsimp only)
        exact W.ret ⟨by unfold whoN; rw [j1 (by decide), hj]; rfl, k1⟩
      | false =>
        rw [hj] at e2
        repeat (first | with_reducible refine wT ?_ | with_reducible refine wF ?_ | with_reducible refine wbd (by assumption) ?_ | (with_reducible refine wbd (fSt0 _) ?_) | (with_reducible refine wia3 (by omega) ?_) | (with_reducible refine wbd (ld1 (by assumption) rfl) ?_) | with_reducible refine wadd1 (by omega) ?_ | with_reducible refine wleqT (by omega) ?_ | dsimp only)
        exact next _ _ (show 0 < m1 by omega) ⟨3, rfl, rfl, by decide, fun _ => j1 (by decide), fun _ => hj⟩
    · repeat (first | with_reducible refine wF ?_ | with_reducible refine wrI ?_ | with_reducible refine wleqF (by omega) ?_ | rw [kLoop_exit] | rw [impl_search_joined.after0_se0_0_3_5_7])
      exact W.ret ⟨by unfold whoN; rw [j1 (by decide), j2 (by decide)]; rfl, k1⟩
  obtain ⟨_, h', e, rfl, k⟩ := this
  exact ⟨h', e, k⟩

end Go.Proofs.YtpaehbfknlpkbabDoor

/- The program's search with its map: who wins what stands, and by which moves. -/
set_option maxRecDepth 20000
namespace Go.Proofs.YtpaehbfknlpkbabDoor
open Go Go.Ip G

/-- What may stand: free cells, stones of both, who is to move. -/
def Stands (R C f a b t : Nat) : Prop := Pos R C a b ∧ f < 2 ^ 9 ∧ (∀ k, f.testBit k = true ↔ k < R * C ∧ (a ||| b).testBit k = false) ∧ (t = 1 ∨ t = 2)
theorem Stands.put {R C f a b t k : Nat} (h : Stands R C f a b t) (hk : f.testBit k = true) : Stands R C (without f k) (putA t k a) (putB t k b) (3 - t) := by
  obtain ⟨h1, h2, h3, h4⟩ := h
  obtain ⟨k1, k2⟩ := (h3 k).1 hk
  refine ⟨h1.put k1 k2, without_lt9 h2, fun j => ?_, by omega⟩
  rw [without_bit, put_bit, Bool.and_eq_true, h3, Bool.or_eq_false_iff]
  simp only [decide_eq_true_eq, decide_eq_false_iff_not]
  exact ⟨fun ⟨⟨a1, a2⟩, a3⟩ => ⟨a1, a2, a3⟩, fun ⟨a1, a2, a3⟩ => ⟨⟨a1, a2⟩, a3⟩⟩

/-- Every entry of the map tells who wins. -/
def Memo (R C : Nat) (es : List (PV × PV)) : Prop := ∀ p ∈ es, ∃ f a b t, Stands R C f a b t ∧ p = (stP f a b t, .int .i64 (winN R C a b t : Int))

theorem eqK_st {f a b t f' a' b' t' : Nat} (h : eqK (stP f a b t) (stP f' a' b' t') = true) : f = f' ∧ a = a' ∧ b = b' ∧ t = t' := by
  simp only [eqK, stP, stC, eqL, eq1, Bool.and_eq_true, decide_eq_true_eq] at h
  omega
theorem memo_find {R C f a b t : Nat} : ∀ {es : List (PV × PV)} {v : PV}, Memo R C es → findM es (stP f a b t) = some v → v = .int .i64 (winN R C a b t : Int)
  | [], v, _, h => by cases h
  | p :: es, v, hm, h => by
    obtain ⟨f', a', b', t', _, rfl⟩ := hm p (by simp)
    unfold findM at h
    cases e : eqK (stP f' a' b' t') (stP f a b t) with
    | true =>
      rw [e] at h
      obtain ⟨_, rfl, rfl, rfl⟩ := eqK_st e
      cases h; rfl
    | false =>
      rw [e] at h
      exact memo_find (fun q hq => hm q (by simp [hq])) h
theorem memo_put {R C f a b t : Nat} (hs : Stands R C f a b t) : ∀ {es : List (PV × PV)}, Memo R C es → Memo R C (putM es (stP f a b t) (.int .i64 (winN R C a b t : Int)))
  | [], _ => fun p hp => by
    simp only [putM, List.mem_singleton] at hp
    exact ⟨f, a, b, t, hs, hp⟩
  | p :: es, hm => by
    obtain ⟨f', a', b', t', hs', rfl⟩ := hm p (by simp)
    have hr : Memo R C es := fun q hq => hm q (by simp [hq])
    unfold putM
    cases e : eqK (stP f' a' b' t') (stP f a b t) with
    | true =>
      obtain ⟨rfl, rfl, rfl, rfl⟩ := eqK_st e
      intro q hq
      rcases List.mem_cons.1 hq with rfl | hq
      · exact ⟨f', a', b', t', hs, rfl⟩
      · exact hr q hq
    | false =>
      intro q hq
      rcases List.mem_cons.1 hq with rfl | hq
      · exact ⟨f', a', b', t', hs', rfl⟩
      · exact memo_put hs hr q hq

/-! ### the keys -/
theorem keyedSt : keyedB Tryd.prog 66 = true := by kernel_rfl
theorem zeroInt : zero1 Tryd.prog 3 = some (.int .i64 0) := by kernel_rfl
theorem stU : Tryd.prog.underlying 66 = some (.struct (Tryd.prog.fieldsOf 66)) := by kernel_rfl
theorem stF : (Tryd.prog.fieldsOf 66).toList.map (fun f => (f.type, f.offset)) = [(64, 0), (3, 3)] := by kernel_rfl
theorem stN : (Tryd.prog.fieldsOf 66).all (·.name != "_") = true := by kernel_rfl
theorem stK : Tryd.prog.keyType 66 = true := by kernel_rfl
theorem tyIntU : Tryd.prog.underlying 3 = some (.int .i64) := by kernel_rfl
theorem ce1 : Tryd.prog.cellsOf 3 = 1 := by kernel_rfl
theorem ce3 : Tryd.prog.cellsOf 64 = 3 := by kernel_rfl
theorem ce4 : Tryd.prog.cellsOf 66 = 4 := by kernel_rfl
theorem tySz : Nat.ble 2 Tryd.prog.types.size = true := by kernel_rfl
theorem wf_small {x : Nat} (hx : x < 2 ^ 9) : (Lit.int .i64 (x : Int)).wf = true := by
  have h1 : IntKind.i64.min = -9223372036854775808 := by decide
  have h2 : IntKind.i64.max = 9223372036854775807 := by decide
  simp only [Lit.wf, h1, h2, Bool.and_eq_true, decide_eq_true_eq]
  omega
theorem lits_int {D x : Nat} (hx : x < 2 ^ 9) : Tryd.prog.keyLits (D + 1) 3 [.int .i64 (x : Int)] = some [.int .i64 (x : Int)] := by
  simp [Program.keyLits, tyIntU, wf_small hx]
theorem lits_arr {D x y z : Nat} (hx : x < 2 ^ 9) (hy : y < 2 ^ 9) (hz : z < 2 ^ 9) : Tryd.prog.keyLits (D + 2) 64 [.int .i64 (x : Int), .int .i64 (y : Int), .int .i64 (z : Int)] = some [.int .i64 (x : Int), .int .i64 (y : Int), .int .i64 (z : Int)] := by
  unfold Program.keyLits
  rw [tyA3]
  simp only [ce1, ce3, List.length_cons, List.length_nil, if_true]
  rw [show List.range 3 = [0, 1, 2] from rfl]
  simp [lits_int hx, lits_int hy, lits_int hz]
theorem lits_st {D f a b t : Nat} (hf : f < 2 ^ 9) (ha : a < 2 ^ 9) (hb : b < 2 ^ 9) (ht : t < 2 ^ 9) : ∃ L, Tryd.prog.keyLits (D + 3) 66 [.int .i64 (f : Int), .int .i64 (a : Int), .int .i64 (b : Int), .int .i64 (t : Int)] = some L := by
  unfold Program.keyLits
  rw [stU]
  simp only [ce4, List.length_cons, List.length_nil, stN, and_self, if_true]
  have hF := stF
  generalize Tryd.prog.fieldsOf 66 = fs at hF ⊢
  obtain ⟨L⟩ := fs
  match L, hF with
  | [f0, f1], hF =>
    simp only [List.map_cons, List.map_nil, List.cons.injEq, Prod.mk.injEq, and_true] at hF
    obtain ⟨⟨t0, o0⟩, t1, o1⟩ := hF
    refine ⟨[.int .i64 (f : Int), .int .i64 (a : Int), .int .i64 (b : Int), .int .i64 (t : Int)], ?_⟩
    simp [t0, o0, t1, o1, ce1, ce3, lits_arr hf ha hb, lits_int ht]
  | [], hF => simp at hF
  | [_], hF => simp at hF
  | _ :: _ :: _ :: _, hF => simp at hF
theorem isKey_st {R C f a b t : Nat} (hB : BoardOf R C) (hs : Stands R C f a b t) : isKeyP Tryd.prog 66 (stP f a b t) = true := by
  obtain ⟨hp, hf, _, ht⟩ := hs
  have l9 := hp.lt9 hB
  obtain ⟨D, hD⟩ : ∃ D, Tryd.prog.types.size + 1 = D + 3 := ⟨Tryd.prog.types.size - 2, by have := Nat.le_of_ble_eq_true tySz; omega⟩
  obtain ⟨L, hL⟩ := lits_st (D := D) hf l9.1 l9.2 (show t < 2 ^ 9 by omega)
  have hk : keyV (stP f a b t) = some (.agg #[.int .i64 (f : Int), .int .i64 (a : Int), .int .i64 (b : Int), .int .i64 (t : Int)]) := rfl
  have hfo : (Value.agg #[.int .i64 (f : Int), .int .i64 (a : Int), .int .i64 (b : Int), .int .i64 (t : Int)]).formed Tryd.prog 66 = true := by
    simp [Value.formed, stU, ce4]
  unfold isKeyP
  rw [hk]
  simp only [keyOf, stU, stK, hfo, Bool.and_self, if_true, hD, Value.cells, hL, Option.map_some, Option.isSome_some]
theorem keys_memo {R C : Nat} {es : List (PV × PV)} (hB : BoardOf R C) (hm : Memo R C es) {f a b t : Nat} (hs : Stands R C f a b t) : keysB Tryd.prog 66 es (stP f a b t) = true := by
  unfold keysB
  rw [keyedSt, isKey_st hB hs, Bool.and_self, Bool.true_and, List.all_eq_true]
  intro p hp
  obtain ⟨f', a', b', t', hs', rfl⟩ := hm p hp
  exact isKey_st hB hs'

theorem look_st {R C m : Nat} {es : List (PV × PV)} {h : PHeap} (hB : BoardOf R C) (hM : MapAt h m es) (hm : Memo R C es) {f a b t : Nat} (hs : Stands R C f a b t) :
    lookupP Tryd.prog 83 (.mapv m) (stP f a b t) true h = some (foundP true (.int .i64 0) (findM es (stP f a b t))) := by
  have hk := keys_memo hB hm hs
  have hma : mapAt h m = some es := by unfold mapAt; rw [show h[m]? = some (.mp es) from hM]
  simp only [lookupP, tyMp, hma, zeroInt, hk, cond_true]
theorem upd_st {R C m : Nat} {es : List (PV × PV)} {h : PHeap} (hB : BoardOf R C) (hM : MapAt h m es) (hm : Memo R C es) {f a b t : Nat} (hs : Stands R C f a b t) (x : Int) :
    updateP Tryd.prog 83 (.mapv m) (stP f a b t) (.int .i64 x) h = some (h.set m (.mp (putM es (stP f a b t) (.int .i64 x)))) := by
  have hk := keys_memo hB hm hs
  have hma : mapAt h m = some es := by unfold mapAt; rw [show h[m]? = some (.mp es) from hM]
  simp only [updateP, tyMp, hma, hk, PV.oneCell, Bool.and_self, cond_true]

/-- The search of a board: its tables, and its map, right in every entry. -/
def Sch (R C : Nat) (h : PHeap) (s m : Nat) : Prop := At h s (srchC R C m) ∧ ∃ es, MapAt h m es ∧ Memo R C es
theorem Sch.keep {R C s m : Nat} {h h' : PHeap} (hs : Sch R C h s m) (k : Keep h.length h h') : Sch R C h' s m := by
  obtain ⟨a, es, b, c⟩ := hs; exact ⟨a.keep k, es, b.keep k, c⟩
theorem Sch.ne {R C s m id : Nat} {h : PHeap} {l : List PV} (hs : Sch R C h s m) (a : At h id l) : id ≠ m := by
  obtain ⟨_, es, b, _⟩ := hs; exact a.ne b
theorem Sch.lt {R C s m : Nat} {h : PHeap} (hs : Sch R C h s m) : m < h.length := by
  obtain ⟨_, es, b, _⟩ := hs; exact b.lt
theorem Tab64.kb {g : Nat → PV} {R C s m : Nat} {h h' : PHeap} (t : Tab64 g h) (hs : Sch R C h s m) (k : KB m h h') : Tab64 g h' := fun id e => by
  have ho := t id e
  obtain ⟨_, es, b, _⟩ := hs
  rw [k.2 id (List.getElem?_eq_some_iff.1 ho).1 (fun e => by subst e; unfold MapAt at b; rw [ho] at b; cases b)]; exact ho
theorem Tab.kb {g : Nat → PV} {R C s m : Nat} {h h' : PHeap} (t : Tab g h) (hs : Sch R C h s m) (k : KB m h h') : Tab g h' := by
  obtain ⟨id, e, ho⟩ := t
  obtain ⟨_, es, b, _⟩ := hs
  exact ⟨id, e, by rw [k.2 id (List.getElem?_eq_some_iff.1 ho).1 (fun e => by subst e; unfold MapAt at b; rw [ho] at b; cases b)]; exact ho⟩

theorem who_win {R C a b t : Nat} (hB : BoardOf R C) (hp : Pos R C a b) : (whoN R C a b ≠ 0 → winN R C a b t = whoN R C a b) ∧ (whoN R C a b = 0 → joinsN R C 1 a = false ∧ joinsN R C 2 b = false) ∧ whoN R C a b ≤ 2 := by
  unfold whoN
  cases h1 : joinsN R C 1 a with
  | true => exact ⟨fun _ => win_first h1, fun h => by simp at h, by simp⟩
  | false =>
    cases h2 : joinsN R C 2 b with
    | true => exact ⟨fun _ => by rw [win_second hB hp h2]; rfl, fun h => by simp at h, by simp⟩
    | false => exact ⟨fun h => by simp at h, fun _ => ⟨rfl, rfl⟩, by simp⟩

theorem fr_put' {R C f a b t k : Nat} (hs : Stands R C f a b t) (hk : f.testBit k = true) : frN (R * C) (putA t k a) (putB t k b) + 1 ≤ frN (R * C) a b := by
  obtain ⟨k1, k2⟩ := (hs.2.2.1 k).1 hk; exact fr_put k1 k2

variable (g : Nat → PV) (lf n : Nat)

def WinOk (R C s m : Nat) (b : Nat) : Prop := ∀ (f a b' t N : Nat) (h : PHeap), frN (R * C) a b' ≤ b → Stands R C f a b' t → 2 * b + 8 ≤ N → Sch R C h s m → Tab64 g h →
  W (CL g lf N fn_impl_search_winner [.ptr s 0, stP f a b' t] h) fun v h' => v = .int .i64 (winN R C a b' t : Int) ∧ Sch R C h' s m ∧ KB m h h'

theorem solved_W {R C s m B : Nat} (hB : BoardOf R C) (hbig : Big g) (hlf : 1000 < lf) (ih : ∀ b, b < B → WinOk g lf R C s m b) {f a b t : Nat} (hfr : frN (R * C) a b ≤ B) (hst : Stands R C f a b t) (N : Nat) (hN : 2 * B + 7 ≤ N) {h : PHeap} (hs : Sch R C h s m) (ht : Tab64 g h) :
    W (CL g lf N fn_impl_search_solved [.ptr s 0, stP f a b t] h) fun v h' => v = .int .i64 (winN R C a b t : Int) ∧ Sch R C h' s m ∧ KB m h h' := by
  obtain ⟨n, rfl⟩ : ∃ n, N = n + 1 := ⟨N - 1, by omega⟩
  obtain ⟨hp, hf9, hfree, hT⟩ := id hst
  have h9 := hB.2.2.2.2
  have l9 := hp.lt9 hB
  obtain ⟨w1, w2, w3⟩ := who_win (t := t) hB hp
  rw [impl_search_solved.call_eq]
  unfold impl_search_solved.main
  simp only [env_C, env_lf, env_box, env_load, env_bin, env_fieldAddr, env_indexAddr]
  refine wboxS fun h1 id o1 k1 l1 => ?_
  have hs1 := hs.keep k1
  have ht1 := ht.keep k1
  obtain ⟨h2, e1, k2⟩ := joined_W g lf (f := f) (t := t) hB hp hbig hs1.1 ht1 n (by omega) hlf
  have hs2 := hs1.keep k2
  have ht2 := ht1.keep k2
  have o2 := o1.keep k2
  repeat (first | with_reducible refine wbd (by assumption) ?_ | (with_reducible refine wbd (ldS (by assumption)) ?_) | dsimp only)
  refine wneq (fun e => ?_) (fun e => ?_)
  · repeat (first | with_reducible refine wT ?_ | with_reducible refine wrI ?_)
    exact W.ret ⟨by rw [w1 (by omega)], hs2, k1.kb.trans k2.kb⟩
  · obtain ⟨j1, j2⟩ := w2 (by omega)
    have hwo := win_open (t := t) j1 j2
    have e3 : ∀ h, CL g lf n fn_impl_exchanged [.int .i64 (t : Int)] h = some (.int .i64 ((3 - t : Nat) : Int), h) := fun h => exchanged_W g lf n (by omega) h hT
    repeat (first | with_reducible refine wF ?_ | (with_reducible refine wbd (fSt0 _) ?_) | (with_reducible refine wia30 ?_) | (with_reducible refine wbd (ld1 (by assumption) rfl) ?_))
    refine loopW (fun m' st => ∃ (r : Nat) (h3 : PHeap), st = impl_search_solved.st0 (.ptr s 0) (.ptr id 0) (.int .i64 (r : Int)) h3 ∧ r < 2 ^ 9 ∧ (∀ k, r.testBit k = true → f.testBit k = true) ∧ (∀ k, f.testBit k = true → r.testBit k = false → winN R C (putA t k a) (putB t k b) (3 - t) ≠ t) ∧
      At h3 id (stC f a b t) ∧ Sch R C h3 s m ∧ Tab64 g h3 ∧ KB m h2 h3 ∧ m' = r) ?_ lf f _ (by omega) ⟨f, h2, rfl, hf9, fun _ h => h, fun k h1 h2 => (by rw [h1] at h2; cases h2), o2, hs2, ht2, KB.refl _ _, rfl⟩
    rintro n1 m1 st ⟨r, h3, rfl, hr, hrf, hno, o3, hs3, ht3, k3, hm⟩ next
    rw [impl_search_solved.body0_eq]
    unfold impl_search_solved.body0
    simp only [env_C, env_load, env_bin, env_fieldAddr]
    by_cases e4 : r = 0
    · subst e4
      have e3' := e3 h3
      repeat (first | with_reducible refine wF ?_ | with_reducible refine wrI ?_ | with_reducible refine wbd (by assumption) ?_ | (with_reducible refine wbd (fSt1 _) ?_) | (with_reducible refine wbd (ld1 (by assumption) rfl) ?_) | with_reducible refine wneqF (by omega) ?_ | rw [kLoop_exit] | rw [impl_search_solved.after0_se0_0_3_6_17] | dsimp only | simp only [env_C, env_Y, env_g, env_lf, env_pick, env_alloc, env_box, env_build, env_buildSlice, env_load, env_store, env_ptr, env_bin, env_un, env_conv, env_make, env_slice, env_fieldAddr, env_field, env_indexAddr, env_index, env_extract, env_len, env_append, env_max, env_min, env_makeMap, env_lookup, env_update, env_clos, env_bstr, env_ext])
      refine W.ret ⟨?_, hs3, (k1.kb.trans k2.kb).trans k3⟩
      have hmv : moveB R C a b t = false := by
        cases hh : moveB R C a b t with
        | false => rfl
        | true =>
          obtain ⟨k, c1, c2, c3⟩ := moveB_iff.1 hh
          exact absurd c3 (hno k ((hfree k).2 ⟨c1, c2⟩) (Nat.zero_testBit _))
      rw [hwo, hmv]; rfl
    · have el := leastIn_W g lf hr e4 hbig ht3 n (by omega)
      obtain ⟨c1, c2, c3, c4⟩ := low_ok hr e4
      obtain ⟨d1, d2⟩ := f_drop hr e4
      have hlt := without_less hr e4
      have hwl := without_lt9 (k := lowN r) hr
      obtain ⟨k, hk⟩ : ∃ k, k = lowN r := ⟨_, rfl⟩
      rw [← hk] at el c1 c2 d2 hlt hwl
      have hkf := hrf k c1
      have hfr' := fr_put' hst hkf
      have hst' := hst.put hkf
      repeat (first | with_reducible refine wT ?_ | with_reducible refine wck plain_int ?_ | with_reducible refine wbd (by assumption) ?_ | (with_reducible refine wbd (fSt1 _) ?_) | (with_reducible refine wbd (ld1 (by assumption) rfl) ?_) | (with_reducible refine wbd (ldS (by assumption)) ?_) | (with_reducible refine wck plainS ?_) | with_reducible refine wneqT (by omega) ?_ | dsimp only)
      refine wcall (after_W g lf hf9 l9.1 l9.2 c2 hT n (by omega) h3) fun v h4 ⟨hv, k4⟩ => ?_
      subst hv
      have o4 := o3.keep k4
      have hs4 := hs3.keep k4
      have ht4 := ht3.keep k4
      repeat (first | with_reducible refine wck plain_int ?_ | (with_reducible refine wbd (ld1 (by assumption) rfl) ?_) | (with_reducible refine wbd (ldS (by assumption)) ?_) | (with_reducible refine wck plainS ?_) | dsimp only)
      refine wcall (ih (B - 1) (by omega) _ _ _ _ n h4 (by omega) hst' (by omega) hs4 ht4) fun v h5 ⟨hv, hs5, k5⟩ => ?_
      subst hv
      have o5 := o4.kb k5 (hs4.ne o4)
      have ht5 := ht4.kb hs4 k5
      repeat (first | with_reducible refine wck plain_int ?_ | (with_reducible refine wbd (ld1 (by assumption) rfl) ?_) | (with_reducible refine wbd (ldS (by assumption)) ?_) | (with_reducible refine wck plainS ?_) | dsimp only)
      refine weql (fun e5 => ?_) (fun e5 => ?_)
      · repeat (first | with_reducible refine wT ?_ | with_reducible refine wrI ?_ | (with_reducible refine wbd (fSt1 _) ?_) | (with_reducible refine wbd (ld1 (by assumption) rfl) ?_) | rw [kLoop_ret] | rw [impl_search_solved.K0_ret] | rw [impl_search_solved.top_sr_4])
        refine W.ret ⟨?_, hs5, ((k1.kb.trans k2.kb).trans k3).trans (k4.kb.trans k5)⟩
        obtain ⟨q1, q2⟩ := (hfree k).1 hkf
        have hmv : moveB R C a b t = true := moveB_iff.2 ⟨k, q1, q2, by omega⟩
        rw [hwo, hmv]; rfl
      · repeat (first | with_reducible refine wF ?_ | with_reducible refine wbd (by assumption) ?_)
        refine next _ _ (hm ▸ hlt) ⟨_, h5, rfl, hwl, fun j hj => ?_, fun j hj1 hj2 => ?_, o5, hs5, ht5, k3.trans (k4.kb.trans k5), rfl⟩
        · rw [without_bit, Bool.and_eq_true] at hj; exact hrf j hj.1
        · by_cases hjk : j = k
          · subst hjk; omega
          · rw [without_bit] at hj2
            simp only [ne_eq, hjk, not_false_eq_true, decide_true, Bool.and_true] at hj2
            exact hno j hj1 hj2

theorem sWinner_W {R C s m : Nat} (hB : BoardOf R C) (hbig : Big g) (hlf : 1000 < lf) (B : Nat) : WinOk g lf R C s m B := by
  induction B using Nat.strongRecOn with
  | _ B ih =>
  intro f a b t N h hfr hst hN hs ht
  obtain ⟨n, rfl⟩ : ∃ n, N = n + 1 := ⟨N - 1, by omega⟩
  rw [impl_search_winner.call_eq]
  unfold impl_search_winner.main
  simp only [env_C, env_box, env_load, env_ptr, env_un, env_fieldAddr, env_extract, env_lookup, env_update]
  refine wboxS fun h1 id o1 k1 l1 => ?_
  have hs1 := hs.keep k1
  have ht1 := ht.keep k1
  obtain ⟨sa, es, ma, mm⟩ := _root_.id hs1
  have hlook := look_st hB ma mm hst
  repeat (first | with_reducible refine wptr ?_ | with_reducible refine wbd (by assumption) ?_ | (with_reducible refine wbd (fs3 _) ?_) | (with_reducible refine wbd (ldS (by assumption)) ?_) | (with_reducible refine wbd (ldM (by assumption) (srch_map _ _ _)) ?_) | dsimp only)
  cases hfd : findM es (stP f a b t) with
  | some v =>
    have hv := memo_find mm hfd
    subst hv
    refine wx0 ?_
    refine wx1 ?_
    repeat (first | with_reducible refine wF ?_ | with_reducible refine wnT ?_ | with_reducible refine wrI ?_)
    exact W.ret ⟨rfl, hs1, k1.kb⟩
  | none =>
    refine wx0 ?_
    refine wx1 ?_
    repeat (first | with_reducible refine wT ?_ | with_reducible refine wnF ?_ | (with_reducible refine wbd (ldS (by assumption)) ?_))
    refine wcall (solved_W g lf hB hbig hlf ih hfr hst n (by omega) hs1 ht1) fun v h2 ⟨hv, hs2, k2⟩ => ?_
    subst hv
    have o2 := o1.kb k2 (hs1.ne o1)
    obtain ⟨sa2, es2, ma2, mm2⟩ := _root_.id hs2
    repeat (first | with_reducible refine wptr ?_ | (with_reducible refine wbd (fs3 _) ?_) | (with_reducible refine wbd (ldS (by assumption)) ?_) | (with_reducible refine wbd (ldM (by assumption) (srch_map _ _ _)) ?_) | dsimp only)
    refine wbd (upd_st hB ma2 mm2 hst _) ?_
    have ma3 : MapAt (h2.set m (.mp (putM es2 (stP f a b t) (.int .i64 (winN R C a b t : Int))))) m (putM es2 (stP f a b t) (.int .i64 (winN R C a b t : Int))) := by
      unfold MapAt; rw [List.getElem?_set_self ma2.lt]
    have k3 : KB m h2 (h2.set m (.mp (putM es2 (stP f a b t) (.int .i64 (winN R C a b t : Int))))) := ⟨by simp, fun i _ hn => List.getElem?_set_ne (by omega)⟩
    generalize h2.set m (.mp (putM es2 (stP f a b t) (.int .i64 (winN R C a b t : Int)))) = h3 at ma3 k3 ⊢
    have sa3 := sa2.kb k3 (sa2.ne ma2)
    repeat (first | with_reducible refine wrI ?_)
    exact W.ret ⟨rfl, ⟨sa3, _, ma3, memo_put hst mm2⟩, (k1.kb.trans k2).trans k3⟩

end Go.Proofs.YtpaehbfknlpkbabDoor

/- The program's search: made for a board, begun at a position; the moves by which one wins. -/
set_option maxRecDepth 20000
namespace Go.Proofs.YtpaehbfknlpkbabDoor
open Go Go.Ip G

variable (g : Nat → PV) (lf n : Nat)

theorem sWinning_W {R C s m : Nat} (hB : BoardOf R C) (hbig : Big g) (hlf : 1000 < lf) {f a b t : Nat} (hst : Stands R C f a b t) (N : Nat) (hN : 30 ≤ N) {h : PHeap} (hs : Sch R C h s m) (ht : Tab64 g h) :
    W (CL g lf N fn_impl_search_winning [.ptr s 0, stP f a b t] h) fun v h' => ∃ S : Nat, v = .int .i64 (S : Int) ∧ S < 2 ^ 9 ∧ (∀ k, S.testBit k = true ↔ whoN R C a b = 0 ∧ f.testBit k = true ∧ winN R C (putA t k a) (putB t k b) (3 - t) = t) ∧ Sch R C h' s m ∧ KB m h h' := by
  obtain ⟨n, rfl⟩ : ∃ n, N = n + 1 := ⟨N - 1, by omega⟩
  obtain ⟨hp, hf9, hfree, hT⟩ := id hst
  have h9 := hB.2.2.2.2
  have l9 := hp.lt9 hB
  obtain ⟨w1, w2, w3⟩ := who_win (t := t) hB hp
  rw [impl_search_winning.call_eq]
  unfold impl_search_winning.main
  simp only [env_C, env_lf, env_box, env_load, env_bin, env_fieldAddr, env_indexAddr]
  refine wboxS fun h1 id o1 k1 l1 => ?_
  have hs1 := hs.keep k1
  have ht1 := ht.keep k1
  obtain ⟨h2, e1, k2⟩ := joined_W g lf (f := f) (t := t) hB hp hbig hs1.1 ht1 n (by omega) hlf
  have hs2 := hs1.keep k2
  have ht2 := ht1.keep k2
  have o2 := o1.keep k2
  repeat (first | with_reducible refine wbd (by assumption) ?_ | (with_reducible refine wbd (ldS (by assumption)) ?_) | dsimp only)
  refine wneq (fun e => ?_) (fun e => ?_)
  · repeat (first | with_reducible refine wT ?_ | with_reducible refine wrI ?_)
    exact W.ret ⟨0, rfl, by decide, fun k => ⟨fun hh => (by rw [Nat.zero_testBit] at hh; cases hh), fun hh => absurd hh.1 (by omega)⟩, hs2, k1.kb.trans k2.kb⟩
  · have hw0 : whoN R C a b = 0 := by omega
    repeat (first | with_reducible refine wF ?_ | (with_reducible refine wbd (fSt0 _) ?_) | (with_reducible refine wia30 ?_) | (with_reducible refine wbd (ld1 (by assumption) rfl) ?_))
    refine loopW (fun m' st => ∃ (S r : Nat) (h3 : PHeap), st = impl_search_winning.st0 (.ptr s 0) (.ptr id 0) (.int .i64 (S : Int)) (.int .i64 (r : Int)) h3 ∧ r < 2 ^ 9 ∧ S < 2 ^ 9 ∧ (∀ k, r.testBit k = true → f.testBit k = true) ∧ (∀ k, S.testBit k = true ↔ f.testBit k = true ∧ r.testBit k = false ∧ winN R C (putA t k a) (putB t k b) (3 - t) = t) ∧
      At h3 id (stC f a b t) ∧ Sch R C h3 s m ∧ Tab64 g h3 ∧ KB m h2 h3 ∧ m' = r) ?_ lf f _ (by omega) ⟨0, f, h2, rfl, hf9, by decide, fun _ h => h, fun k => ⟨fun hh => (by rw [Nat.zero_testBit] at hh; cases hh), fun ⟨h1, h2, _⟩ => (by rw [h1] at h2; cases h2)⟩, o2, hs2, ht2, KB.refl _ _, rfl⟩
    rintro n1 m1 st ⟨S, r, h3, rfl, hr, hS, hrf, hSb, o3, hs3, ht3, k3, hm⟩ next
    rw [impl_search_winning.body0_eq]
    unfold impl_search_winning.body0
    simp only [env_C, env_load, env_bin, env_fieldAddr]
    by_cases e4 : r = 0
    · subst e4
      repeat (first | with_reducible refine wF ?_ | with_reducible refine wrI ?_ | with_reducible refine wneqF (by omega) ?_ | rw [kLoop_exit] | rw [impl_search_winning.after0_se0_0_3_5_6_16])
      refine W.ret ⟨S, rfl, hS, fun k => ?_, hs3, (k1.kb.trans k2.kb).trans k3⟩
      rw [hSb]
      exact ⟨fun ⟨c1, _, c3⟩ => ⟨hw0, c1, c3⟩, fun ⟨_, c1, c3⟩ => ⟨c1, Nat.zero_testBit _, c3⟩⟩
    · have el := leastIn_W g lf hr e4 hbig ht3 n (by omega)
      obtain ⟨c1, c2, c3, c4⟩ := low_ok hr e4
      obtain ⟨d1, d2⟩ := f_drop hr e4
      have hlt := without_less hr e4
      have hwl := without_lt9 (k := lowN r) hr
      obtain ⟨k, hk⟩ : ∃ k, k = lowN r := ⟨_, rfl⟩
      rw [← hk] at el c1 c2 d2 hlt hwl
      have hkf := hrf k c1
      have hst' := hst.put hkf
      have hsl := shl_lt c2
      repeat (first | with_reducible refine wT ?_ | with_reducible refine wbd (by assumption) ?_ | (with_reducible refine wbd (fSt1 _) ?_) | (with_reducible refine wbd (ld1 (by assumption) rfl) ?_) | (with_reducible refine wbd (ldS (by assumption)) ?_) | with_reducible refine wneqT (by omega) ?_ | dsimp only)
      refine wcall (after_W g lf hf9 l9.1 l9.2 c2 hT n (by omega) h3) fun v h4 ⟨hv, k4⟩ => ?_
      subst hv
      have o4 := o3.keep k4
      have hs4 := hs3.keep k4
      have ht4 := ht3.keep k4
      repeat (first | with_reducible refine wck plain_int ?_ | (with_reducible refine wbd (ld1 (by assumption) rfl) ?_) | (with_reducible refine wbd (ldS (by assumption)) ?_) | (with_reducible refine wck plainS ?_) | dsimp only)
      refine wcall (sWinner_W g lf hB hbig hlf 9 _ _ _ _ n h4 (Nat.le_trans (fr_le _ _ _) h9) hst' (by omega) hs4 ht4) fun v h5 ⟨hv, hs5, k5⟩ => ?_
      subst hv
      have o5 := o4.kb k5 (hs4.ne o4)
      have ht5 := ht4.kb hs4 k5
      have hrw : ∀ j, (without r k).testBit j = true → f.testBit j = true := fun j hj => by
        rw [without_bit, Bool.and_eq_true] at hj; exact hrf j hj.1
      repeat (first | with_reducible refine wck plain_int ?_ | (with_reducible refine wbd (ld1 (by assumption) rfl) ?_) | (with_reducible refine wbd (ldS (by assumption)) ?_) | (with_reducible refine wck plainS ?_) | dsimp only)
      refine weql (fun e5 => ?_) (fun e5 => ?_)
      · repeat (first | with_reducible refine wT ?_ | with_reducible refine wbd (by assumption) ?_ | with_reducible refine wshl (by omega) ?_ | with_reducible refine wor (by omega) (by omega) ?_)
        refine next _ _ (hm ▸ hlt) ⟨_, _, h5, rfl, hwl, Nat.or_lt_two_pow hS hsl, hrw, fun j => ?_, o5, hs5, ht5, k3.trans (k4.kb.trans k5), rfl⟩
        rw [with_bit, Bool.or_eq_true, hSb, without_bit, decide_eq_true_iff]
        by_cases hjk : j = k
        · subst hjk
          exact ⟨fun _ => ⟨hkf, by simp, by omega⟩, fun _ => .inr rfl⟩
        · simp only [ne_eq, hjk, not_false_eq_true, decide_true, Bool.and_true, or_false]
      · repeat (first | with_reducible refine wF ?_ | with_reducible refine wbd (by assumption) ?_)
        refine next _ _ (hm ▸ hlt) ⟨_, _, h5, rfl, hwl, hS, hrw, fun j => ?_, o5, hs5, ht5, k3.trans (k4.kb.trans k5), rfl⟩
        rw [hSb, without_bit]
        by_cases hjk : j = k
        · subst hjk
          exact ⟨fun hh => (by rw [c1] at hh; cases hh.2.1), fun hh => absurd hh.2.2 (by omega)⟩
        · simp only [ne_eq, hjk, not_false_eq_true, decide_true, Bool.and_true]

/-! ### a search is made -/
def slotV (R C i p j : Nat) : Nat :=
  if j < 9 then (if j < i then nearV R C j else 0) else if j = 10 ∧ 2 ≤ p then sideN R C 1 false else if j = 11 ∧ 3 ≤ p then sideN R C 2 false else if j = 13 ∧ 2 ≤ p then sideN R C 1 true else if j = 14 ∧ 3 ≤ p then sideN R C 2 true else 0
def fillC (R C m i p : Nat) : List PV := ((List.range 15).map (slotV R C i p)).map (fun x : Nat => .int .i64 (x : Int)) ++ [.mapv m]
theorem fillC_length (R C m i p : Nat) : (fillC R C m i p).length = 16 := by simp [fillC]
theorem fill_done (R C m : Nat) : fillC R C m (R * C) 3 = srchC R C m := by
  have hn : ∀ j ∈ List.range 9, slotV R C (R * C) 3 j = nearV R C j := fun j hj => by
    have hj := List.mem_range.1 hj
    unfold slotV nearV
    rw [if_pos hj]
    by_cases h : j < R * C <;> simp [h]
  unfold fillC srchC srchV
  rw [show List.range 15 = List.range 9 ++ [9, 10, 11, 12, 13, 14] from rfl, List.map_append, List.map_congr_left hn]
  rfl
theorem fill_near {R C m i p : Nat} (hi : i < 9) : (fillC R C m i p).set (0 + i) (.int .i64 (nearV R C i : Int)) = fillC R C m (i + 1) p := by
  unfold fillC
  rw [Nat.zero_add, List.set_append_left _ _ (by simp; omega), ← List.map_set]
  congr 2
  apply List.ext_getElem (by simp)
  intro j h1 h2
  simp only [List.getElem_set, List.getElem_map, List.getElem_range]
  unfold slotV
  by_cases e : i = j
  · subst e; rw [if_pos rfl, if_pos hi, if_pos (by omega)]
  · rw [if_neg e]
    by_cases h9 : j < 9
    · rw [if_pos h9, if_pos h9]
      by_cases h : j < i
      · rw [if_pos h, if_pos (by omega)]
      · rw [if_neg h, if_neg (by omega)]
    · rw [if_neg h9, if_neg h9]
theorem fill_one (R C m i : Nat) : ((fillC R C m i 1).set (9 + 1) (.int .i64 (sideN R C 1 false : Int))).set (12 + 1) (.int .i64 (sideN R C 1 true : Int)) = fillC R C m i 2 := by rfl
theorem fill_two (R C m i : Nat) : ((fillC R C m i 2).set (9 + 2) (.int .i64 (sideN R C 2 false : Int))).set (12 + 2) (.int .i64 (sideN R C 2 true : Int)) = fillC R C m i 3 := by rfl
theorem bldS (m : Nat) : buildP Tryd.prog 86 [(3, .mapv m)] = some (.agg (fillC 1 1 m 0 1)) := by kernel_rfl
theorem fill_zero (R C m : Nat) : fillC 1 1 m 0 1 = fillC R C m 0 1 := by
  unfold fillC
  congr 2

theorem wmkM {Q : PV → PHeap → Prop} {h : PHeap} {F : PV × PHeap → Res} (hf : ∀ h' m, MapAt h' m [] → Keep h.length h h' → h.length ≤ m → W (F (.mapv m, h')) Q) : W ((makeMapP none h).bind F) Q :=
  hf _ _ (by unfold MapAt; simp) (Keep.append _ _ _ (Nat.le_refl _)) (Nat.le_refl _)

theorem newSearch_W {R C : Nat} (hB : BoardOf R C) (N : Nat) (hN : 7 ≤ N) (hlf : 1000 < lf) {h : PHeap} (ht : Tab g h) :
    W (CL g lf N fn_impl_newSearch [.int .i64 (R : Int), .int .i64 (C : Int)] h) fun v h' => ∃ s m, v = .ptr s 0 ∧ Sch R C h' s m ∧ Keep h.length h h' ∧ h.length ≤ s ∧ h.length ≤ m := by
  obtain ⟨n, rfl⟩ : ∃ n, N = n + 1 := ⟨N - 1, by omega⟩
  obtain ⟨b1, b2, b3, b4, h9⟩ := id hB
  rw [impl_newSearch.call_eq]
  unfold impl_newSearch.main
  simp only [env_lf, env_box, env_build, env_bin, env_makeMap]
  refine wmkM fun h1 m ma k1 lm => ?_
  refine wbd (bldS m) ?_
  refine wnew (l := fillC 1 1 m 0 1) (by rfl) fun h2 s o2 k2 ls => ?_
  dsimp only at k2 ls ⊢
  rw [fill_zero R C] at o2
  have ma2 := ma.keep k2
  have kk := k1.trans (k2.mono k1.1)
  have lss : h.length ≤ s := Nat.le_trans k1.1 ls
  have hRC : R * C < 4611686018427387904 := by omega
  repeat (first | with_reducible refine wmulN (by omega) ?_)
  refine loopW (fun m' st => ∃ (i : Nat) (h3 : PHeap), st = impl_newSearch.st0 (.int .i64 (R : Int)) (.int .i64 (C : Int)) (.ptr s 0) (.int .i64 ((R * C : Nat) : Int)) (.int .i64 (i : Int)) h3 ∧ i + m' = R * C ∧ At h3 s (fillC R C m i 1) ∧ MapAt h3 m [] ∧ Keep h.length h h3) ?_ lf (R * C) _ (by omega) ⟨0, h2, rfl, by omega, o2, ma2, kk⟩
  rintro n1 m1 st ⟨i, h3, rfl, him, o3, ma3, k3⟩ next
  rw [impl_newSearch.body0_eq]
  unfold impl_newSearch.body0
  simp only [env_C, env_store, env_ptr, env_bin, env_fieldAddr, env_indexAddr]
  cases m1 with
  | succ m1 =>
    have hi : i < 9 := by omega
    have hsl := shl_lt hi
    have hnv : wideN R C (1 <<< i) = nearV R C i := by unfold nearV; rw [if_pos (by omega)]
    obtain ⟨h4, e4, k4⟩ := withNear_calls g lf b1 b2 b3 b4 h9 hsl n (by omega) (by omega) (ht.keep k3)
    have o4 := o3.keep k4
    rw [hnv] at e4
    repeat (first | with_reducible refine wT ?_ | with_reducible refine wptr ?_ | with_reducible refine wbd (by assumption) ?_ | (with_reducible refine wbd (fs0 _) ?_) | (with_reducible refine wia9 hi ?_) | with_reducible refine wshl (by omega) ?_ | with_reducible refine wlssT (by omega) ?_ | dsimp only)
    refine wst1 o4 (by rw [fillC_length]; omega) fun h5 o5 k5 => ?_
    rw [fill_near hi] at o5
    have ma5 := (ma3.keep k4).kb k5 (o4.ne (ma3.keep k4)).symm
    repeat (first | with_reducible refine wadd1 (by omega) ?_)
    exact next _ _ (Nat.lt_succ_self m1) ⟨i + 1, h5, rfl, by omega, o5, ma5, (k3.trans (k4.mono k3.1)).kbs (Nat.le_refl _) k5 lss⟩
  | zero =>
    have hiR : i = R * C := by omega
    subst hiR
    repeat (first | with_reducible refine wF ?_ | with_reducible refine wlssF (by omega) ?_ | rw [kLoop_exit] | rw [impl_newSearch.after0_se0_0_1_5_13_14_15] | simp only [env_C, env_Y, env_g, env_lf, env_pick, env_alloc, env_box, env_build, env_buildSlice, env_load, env_store, env_ptr, env_bin, env_un, env_conv, env_make, env_slice, env_fieldAddr, env_field, env_indexAddr, env_index, env_extract, env_len, env_append, env_max, env_min, env_makeMap, env_lookup, env_update, env_clos, env_bstr, env_ext])
    refine loopW (fun m' st => ∃ (P : Nat) (h4 : PHeap), st = impl_newSearch.st1 (.int .i64 (R : Int)) (.int .i64 (C : Int)) (.ptr s 0) (.int .i64 (P : Int)) h4 ∧ P + m' = 3 ∧ 1 ≤ P ∧ At h4 s (fillC R C m (R * C) P) ∧ MapAt h4 m [] ∧ Keep h.length h h4) ?_ lf 2 _ (by omega) ⟨1, h3, rfl, rfl, by decide, o3, ma3, k3⟩
    rintro n2 m2 st ⟨P, h4, rfl, hPm, hP1, o4, ma4, k4⟩ next2
    have hP : P = 1 ∨ P = 2 ∨ P = 3 := by omega
    have e1 := fun h => sidesOf_W g lf hB (P := 1) (.inl rfl) n (by omega) hlf h
    have e2 := fun h => sidesOf_W g lf hB (P := 2) (.inr rfl) n (by omega) hlf h
    rw [impl_newSearch.body1_eq]
    unfold impl_newSearch.body1
    simp only [env_C, env_store, env_ptr, env_bin, env_fieldAddr, env_indexAddr, env_extract]
    rcases hP with rfl | rfl | rfl
    · have e1' := e1 h4
      repeat (first | with_reducible refine wT ?_ | with_reducible refine wx0 ?_ | with_reducible refine wx1 ?_ | with_reducible refine wptr ?_ | with_reducible refine wbd (by assumption) ?_ | (with_reducible refine wbd (fs1 _) ?_) | (with_reducible refine wbd (fs2 _) ?_) | (with_reducible refine wia3 (by omega) ?_) | with_reducible refine wleqT (by omega) ?_ | dsimp only)
      refine wst1 o4 (by rw [fillC_length]; decide) fun h5 o5 k5 => ?_
      repeat (first | (with_reducible refine wia3 (by omega) ?_))
      refine wst1 o5 (by rw [List.length_set, fillC_length]; decide) fun h6 o6 k6 => ?_
      rw [fill_one] at o6
      repeat (first | with_reducible refine wadd1 (by omega) ?_)
      exact next2 _ _ (show 1 < m2 by omega) ⟨2, h6, rfl, rfl, by decide, o6, (ma4.kb k5 (o4.ne ma4).symm).kb k6 (o4.ne ma4).symm, (k4.kbs (Nat.le_refl _) k5 lss).kbs (Nat.le_refl _) k6 lss⟩
    · have e2' := e2 h4
      repeat (first | with_reducible refine wT ?_ | with_reducible refine wx0 ?_ | with_reducible refine wx1 ?_ | with_reducible refine wptr ?_ | with_reducible refine wbd (by assumption) ?_ | (with_reducible refine wbd (fs1 _) ?_) | (with_reducible refine wbd (fs2 _) ?_) | (with_reducible refine wia3 (by omega) ?_) | with_reducible refine wleqT (by omega) ?_ | dsimp only)
      refine wst1 o4 (by rw [fillC_length]; decide) fun h5 o5 k5 => ?_
      repeat (first | (with_reducible refine wia3 (by omega) ?_))
      refine wst1 o5 (by rw [List.length_set, fillC_length]; decide) fun h6 o6 k6 => ?_
      rw [fill_two] at o6
      repeat (first | with_reducible refine wadd1 (by omega) ?_)
      exact next2 _ _ (show 0 < m2 by omega) ⟨3, h6, rfl, rfl, by decide, o6, (ma4.kb k5 (o4.ne ma4).symm).kb k6 (o4.ne ma4).symm, (k4.kbs (Nat.le_refl _) k5 lss).kbs (Nat.le_refl _) k6 lss⟩
    · repeat (first | with_reducible refine wF ?_ | with_reducible refine wrP ?_ | with_reducible refine wleqF (by omega) ?_ | rw [kLoop_exit] | rw [impl_newSearch.after1_se2_0_1_5_7_29])
      rw [fill_done] at o4
      exact W.ret ⟨s, m, rfl, ⟨o4, [], ma4, fun p hp => by cases hp⟩, k4, lss, Nat.le_trans (Nat.le_refl _) lm⟩

/-! ### where it begins -/
theorem bldSt (t : Nat) : buildP Tryd.prog 66 [(1, .int .i64 (t : Int))] = some (stP 0 0 0 t) := by kernel_rfl
theorem standingOf_W {xs : List Int} {p : PV} {h : PHeap} (hp : IntSl .i64 h p xs) (hl : xs.length ≤ 20) (t : Nat) (N : Nat) (hN : 2 ≤ N) (hlf : 1000 < lf) :
    W (CL g lf N fn_impl_standingOf [p, .int .i64 (t : Int)] h) fun v h' => v = stP (setL xs 0) (setL xs 1) (setL xs 2) t ∧ Keep h.length h h' := by
  obtain ⟨n, rfl⟩ : ∃ n, N = n + 1 := ⟨N - 1, by omega⟩
  rw [impl_standingOf.call_eq]
  unfold impl_standingOf.main
  simp only [env_lf, env_alloc, env_build, env_store]
  refine walS fun h1 id1 o1 k1 l1 => ?_
  refine wbd (bldSt t) ?_
  dsimp only
  refine walS fun h2 id2 o2 k2 l2 => ?_
  dsimp only
  have o1' := o1.keep k2
  have hne : id1 ≠ id2 := by have := o1.lt; omega
  refine wstS o2 fun h3 o3 k3 => ?_
  have o13 := o1'.kb k3 hne
  have kk : Keep h.length h h3 := (k1.trans (k2.mono k1.1)).kbs (Nat.le_refl _) k3 (Nat.le_trans k1.1 l2)
  have ll2 : h.length ≤ id2 := Nat.le_trans k1.1 l2
  refine loopW (fun m' st => ∃ (P u v w : Nat) (h4 : PHeap), st = impl_standingOf.st0 p (.ptr id1 0) (.ptr id2 0) (.int .i64 (P : Int)) h4 ∧ P + m' = 3 ∧ At h4 id2 (stC u v w t) ∧ At h4 id1 (stC 0 0 0 0) ∧ Keep h.length h h4 ∧ (1 ≤ P → u = setL xs 0) ∧ (2 ≤ P → v = setL xs 1) ∧ (3 ≤ P → w = setL xs 2)) ?_ lf 3 _ (by omega) ⟨0, 0, 0, 0, h3, rfl, rfl, o3, o13, kk, by omega, by omega, by omega⟩
  rintro n1 m1 st ⟨P, u, v, w, h4, rfl, hPm, o4, o14, k4, hu, hv, hw⟩ next
  have hP : P = 0 ∨ P = 1 ∨ P = 2 ∨ P = 3 := by omega
  have hp4 := hp.keep k4
  have e0 := setOf_W g lf ((0 : Nat) : Int) hp4 hl n (by omega) hlf
  have e1 := setOf_W g lf ((1 : Nat) : Int) hp4 hl n (by omega) hlf
  have e2 := setOf_W g lf ((2 : Nat) : Int) hp4 hl n (by omega) hlf
  rw [impl_standingOf.body0_eq]
  unfold impl_standingOf.body0
  simp only [env_C, env_store, env_bin, env_fieldAddr, env_indexAddr]
  rcases hP with rfl | rfl | rfl | rfl
  · repeat (first | with_reducible refine wT ?_ | with_reducible refine wbd (by assumption) ?_ | (with_reducible refine wbd (fSt0 _) ?_) | (with_reducible refine wia3 (by omega) ?_) | with_reducible refine wlssT (by omega) ?_ | dsimp only)
    refine wst1 o4 (show 0 + 0 < 4 by decide) fun h5 o5 k5 => ?_
    repeat (first | with_reducible refine wadd1 (by omega) ?_)
    exact next _ _ (show 2 < m1 by omega) ⟨1, setL xs 0, v, w, h5, rfl, rfl, o5, o14.kb k5 hne, k4.kbs (Nat.le_refl _) k5 ll2, fun _ => rfl, by omega, by omega⟩
  · repeat (first | with_reducible refine wT ?_ | with_reducible refine wbd (by assumption) ?_ | (with_reducible refine wbd (fSt0 _) ?_) | (with_reducible refine wia3 (by omega) ?_) | with_reducible refine wlssT (by omega) ?_ | dsimp only)
    refine wst1 o4 (show 0 + 1 < 4 by decide) fun h5 o5 k5 => ?_
    repeat (first | with_reducible refine wadd1 (by omega) ?_)
    exact next _ _ (show 1 < m1 by omega) ⟨2, u, setL xs 1, w, h5, rfl, rfl, o5, o14.kb k5 hne, k4.kbs (Nat.le_refl _) k5 ll2, fun _ => hu (by decide), fun _ => rfl, by omega⟩
  · repeat (first | with_reducible refine wT ?_ | with_reducible refine wbd (by assumption) ?_ | (with_reducible refine wbd (fSt0 _) ?_) | (with_reducible refine wia3 (by omega) ?_) | with_reducible refine wlssT (by omega) ?_ | dsimp only)
    refine wst1 o4 (show 0 + 2 < 4 by decide) fun h5 o5 k5 => ?_
    repeat (first | with_reducible refine wadd1 (by omega) ?_)
    exact next _ _ (show 0 < m1 by omega) ⟨3, u, v, setL xs 2, h5, rfl, rfl, o5, o14.kb k5 hne, k4.kbs (Nat.le_refl _) k5 ll2, fun _ => hu (by decide), fun _ => hv (by decide), fun _ => rfl⟩
  · repeat (first | with_reducible refine wF ?_ | (with_reducible refine wbd (ldS (by assumption)) ?_) | with_reducible refine wlssF (by omega) ?_ | rw [kLoop_exit] | rw [impl_standingOf.after0_se0_0_4_5_9_10] | simp only [env_C, env_Y, env_g, env_lf, env_pick, env_alloc, env_box, env_build, env_buildSlice, env_load, env_store, env_ptr, env_bin, env_un, env_conv, env_make, env_slice, env_fieldAddr, env_field, env_indexAddr, env_index, env_extract, env_len, env_append, env_max, env_min, env_makeMap, env_lookup, env_update, env_clos, env_bstr, env_ext])
    refine wstS o14 fun h5 o5 k5 => ?_
    repeat (first | (with_reducible refine wbd (ldS (by assumption)) ?_))
    exact W.ret ⟨by rw [hu (by decide), hv (by decide), hw (by decide)], k4.kbs (Nat.le_refl _) k5 l1⟩

theorem stands_of {R C T : Nat} {xs : List Int} (hS : Sides (R : Int) (C : Int) R C xs) (hT : T = 1 ∨ T = 2) : Stands R C (setL xs 0) (setL xs 1) (setL xs 2) T := by
  refine ⟨pos_sets hS, set_lt9 hS 0, fun k => ?_, hT⟩
  rw [setL_bit]
  constructor
  · intro hk
    have hkl := set_in hS (setL_bit.2 hk)
    exact ⟨hkl, (free_bit hS hkl).2 hk⟩
  · rintro ⟨h1, h2⟩; exact (free_bit hS h1).1 h2

end Go.Proofs.YtpaehbfknlpkbabDoor

