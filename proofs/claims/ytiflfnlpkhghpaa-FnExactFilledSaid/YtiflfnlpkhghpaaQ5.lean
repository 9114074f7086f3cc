/- Promise 15 over what the program's functions are asked to compute. -/
import Derived.Test.YtiflfnlpkhghpaaQ4
namespace Go.Proofs.Ytiflfnlpkhghpaa
open Go Go.Ip G

/-! ### sides -/
theorem sideFrom_bit (R C P : Nat) (last : Bool) (j : Nat) : ∀ (m i w : Nat), (sideFrom R C P last m i w).testBit j = true ↔ w.testBit j = true ∨ (i ≤ j ∧ j < i + m ∧ (bif last then decide (atSide C P j = endSide R C P) else decide (atSide C P j = 0)) = true)
  | 0, i, w => by
    rw [sideFrom]
    constructor
    · exact .inl
    · rintro (h | ⟨h1, h2, _⟩)
      · exact h
      · omega
  | m + 1, i, w => by
    rw [sideFrom, sideFrom_bit R C P last j m (i + 1)]
    by_cases hb : (bif last then decide (atSide C P i = endSide R C P) else decide (atSide C P i = 0)) = true
    · rw [if_pos hb, Nat.testBit_or, one_bit, Bool.or_eq_true, decide_eq_true_iff]
      constructor
      · rintro ((h | h) | ⟨h1, h2, h3⟩)
        · exact .inl h
        · subst h; exact .inr ⟨Nat.le_refl _, by omega, hb⟩
        · exact .inr ⟨by omega, by omega, h3⟩
      · rintro (h | ⟨h1, h2, h3⟩)
        · exact .inl (.inl h)
        · by_cases e : j = i
          · exact .inl (.inr e)
          · exact .inr ⟨by omega, by omega, h3⟩
    · rw [if_neg hb]
      constructor
      · rintro (h | ⟨h1, h2, h3⟩)
        · exact .inl h
        · exact .inr ⟨by omega, by omega, h3⟩
      · rintro (h | ⟨h1, h2, h3⟩)
        · exact .inl h
        · by_cases e : j = i
          · subst e; exact absurd h3 hb
          · exact .inr ⟨by omega, by omega, h3⟩

def sideV (R C P : Nat) (last : Bool) : Nat := bif last then endSide R C P else 0
theorem sideN_bit (R C P : Nat) (last : Bool) (j : Nat) : (sideN R C P last).testBit j = true ↔ j < R * C ∧ atSide C P j = sideV R C P last := by
  unfold sideN
  rw [sideFrom_bit]
  constructor
  · rintro (h | ⟨_, h2, h3⟩)
    · rw [Nat.zero_testBit] at h; cases h
    · refine ⟨by omega, ?_⟩
      cases last <;> exact of_decide_eq_true h3
  · rintro ⟨h1, h2⟩
    refine .inr ⟨Nat.zero_le _, by omega, ?_⟩
    cases last <;> exact decide_eq_true h2

/-- Does a list have a cell of that side? -/
def anyAt (C P v : Nat) (L : List Int) : Bool := L.any fun e => decide (atSide C P e.toNat = v)
def goodC (R C P : Nat) (xs : List Int) (k : Nat) : Bool := decide (xs[k]? = some (P : Int)) && (anyAt C P (sideV R C P false) (groupL (R : Int) (C : Int) xs (k : Int)) && anyAt C P (sideV R C P true) (groupL (R : Int) (C : Int) xs (k : Int)))

theorem reach_start {M : List Nat} {S fr j : Nat} (h : Reach M S fr j) : ∃ s, fr.testBit s = true ∧ S.testBit s = true ∧ Reach M S (1 <<< s) j := by
  induction h with
  | @start j h hs => exact ⟨j, h, hs, reach_one hs⟩
  | step _ ha hs ih =>
    obtain ⟨s, h1, h2, h3⟩ := ih
    exact ⟨s, h1, h2, .step h3 ha hs⟩

theorem group_any {R C P K : Nat} {xs : List Int} (hb : posB (R : Int) (C : Int) xs = true) (hS : Sides (R : Int) (C : Int) R C xs) (hP : P = 1 ∨ P = 2) (hK : xs[K]? = some (P : Int)) (last : Bool) :
    anyAt C P (sideV R C P last) (groupL (R : Int) (C : Int) xs (K : Int)) = true ↔ ∃ j, (sideN R C P last).testBit j = true ∧ Reach (masksN R C) (setL xs (P : Int)) (1 <<< K) j := by
  have hSx := set_lt9 hS (P : Int)
  rw [groupL_stone hb hK (by rcases hP with rfl | rfl <;> decide)]
  unfold anyAt
  rw [List.any_eq_true]
  constructor
  · rintro ⟨e, he, hd⟩
    obtain ⟨j, rfl, hj⟩ := (listN_mem (grow_lt hSx) e).1 he
    have hr := (grow_bit hSx j).1 hj
    exact ⟨j, (sideN_bit R C P last j).2 ⟨set_in hS hr.inSet, of_decide_eq_true hd⟩, hr⟩
  · rintro ⟨j, h1, h2⟩
    exact ⟨(j : Int), (listN_mem (grow_lt hSx) _).2 ⟨j, rfl, (grow_bit hSx j).2 h2⟩, decide_eq_true ((sideN_bit R C P last j).1 h1).2⟩

theorem joins_groups {R C P : Nat} {xs : List Int} (hb : posB (R : Int) (C : Int) xs = true) (hS : Sides (R : Int) (C : Int) R C xs) (hP : P = 1 ∨ P = 2) : joinsL (R : Int) (C : Int) xs (P : Int) = (List.range xs.length).any (goodC R C P xs) := by
  have hB := board_of_sides hS
  have hSx := set_lt9 hS (P : Int)
  rw [joinsL_eq hb hP, Bool.eq_iff_iff, joins_iff hSx, List.any_eq_true]
  constructor
  · rintro ⟨j, h1, h2⟩
    obtain ⟨s, hs1, hs2, hs3⟩ := reach_start h2
    have hxs := setL_bit.1 hs2
    refine ⟨s, by rw [List.mem_range]; exact (List.getElem?_eq_some_iff.1 hxs).1, ?_⟩
    unfold goodC
    rw [Bool.and_eq_true, Bool.and_eq_true, decide_eq_true_iff, group_any hb hS hP hxs, group_any hb hS hP hxs]
    exact ⟨hxs, ⟨s, hs1, reach_one hs2⟩, ⟨j, h1, hs3⟩⟩
  · rintro ⟨k, _, hg⟩
    unfold goodC at hg
    rw [Bool.and_eq_true, Bool.and_eq_true, decide_eq_true_iff] at hg
    obtain ⟨hxk, h1, h2⟩ := hg
    obtain ⟨a, ha1, ha2⟩ := (group_any hb hS hP hxk false).1 h1
    obtain ⟨b, hb1, hb2⟩ := (group_any hb hS hP hxk true).1 h2
    refine ⟨b, hb1, ?_⟩
    have hka : Reach (masksN R C) (setL xs (P : Int)) (1 <<< a) k := Reach.back (adj_sym hB) (setL_bit.2 hxk) ha2
    have one : ∀ {a : Nat} {x : Nat}, (1 <<< a).testBit x = true → x = a := fun {a x} hx => by rw [one_bit] at hx; exact of_decide_eq_true hx
    have : Reach (masksN R C) (setL xs (P : Int)) (sideN R C P false) a := .start ha1 ha2.inSet
    have hk2 : Reach (masksN R C) (setL xs (P : Int)) (sideN R C P false) k := Reach.trans (fun x hx => by rw [one hx]; exact this) hka
    exact Reach.trans (fun x hx => by rw [one hx]; exact hk2) hb2

variable (g : Nat → PV) (lf n : Nat)

theorem or_guard {β : Type} {F D : Bool} {h : PHeap} {x : PV} {f : PV × PHeap → Option β} {r : Option β} {at_ : Option PV} (hat : at_ = some (.bool D)) (hr : f (.bool (F || D), h) = r) :
    ((wantV (.bool F) false).bind fun v100 => (bif v100 then some (x, h) else some (.tup [], h)).bind fun v101 =>
      (wantV (.bool F) false).bind fun v102 => (bif v102 then pv v101.2 at_ else some (.tup [], v101.2)).bind fun v103 =>
      (pickP (.bool F) (.bool true) v103.1).bind fun v104 => f (v104, v103.2)) = r := by
  subst hat
  cases F <;> simpa using hr

end Go.Proofs.Ytiflfnlpkhghpaa
