/- Promise 6: mirrored twice it is as before. -/
import Derived.Test.YtiflfnlpkhghpaaDoorC6
namespace Go.Proofs.YtiflfnlpkhghpaaDoor
open Go Go.Ip Go.RowKit G

variable (g : Nat → PV) (lf n : Nat)

theorem swapI_swapI (x : Int) : swapI (swapI x) = x := by
  unfold swapI
  by_cases h1 : x = 1
  · subst h1; decide
  · by_cases h2 : x = 2
    · subst h2; decide
    · simp [h1, h2]

theorem swapI_one (x : Int) : (swapI x == 1) = (x == 2) := by
  unfold swapI
  by_cases h1 : x = 1
  · subst h1; decide
  · by_cases h2 : x = 2
    · subst h2; decide
    · have b1 : (x == 1) = false := by simp [h1]
      have b2 : (x == 2) = false := by simp [h2]
      rw [if_neg h1, if_neg h2, b1, b2]

theorem swapI_content (x : Int) : contentB (swapI x) = contentB x := by
  unfold swapI
  by_cases h1 : x = 1
  · subst h1; decide
  · by_cases h2 : x = 2
    · subst h2; decide
    · simp [h1, h2]

theorem sig_perm_small : ∀ R : Fin 5, ∀ C : Fin 5, R.1 * C.1 ≤ 9 → ((List.range (R.1 * C.1)).map (sig R.1 C.1)).isPerm (List.range (R.1 * C.1)) = true := by decide

theorem sig_perm {R C : Nat} (h2 : R ≤ 4) (h4 : C ≤ 4) (h9 : R * C ≤ 9) : ((List.range (R * C)).map (sig R C)).Perm (List.range (R * C)) :=
  List.isPerm_iff.1 (sig_perm_small ⟨R, by omega⟩ ⟨C, by omega⟩ h9)

theorem map_getD_range (xs : List Int) : (List.range xs.length).map (fun k => xs.getD k 0) = xs := by
  apply List.ext_getElem?
  intro k
  rw [List.getElem?_map]
  by_cases hk : k < xs.length
  · rw [List.getElem?_range hk, List.getElem?_eq_getElem hk, Option.map_some, List.getD_eq_getElem?_getD, List.getElem?_eq_getElem hk]; rfl
  · rw [List.getElem?_eq_none (by rw [List.length_range]; omega), List.getElem?_eq_none (by omega)]; rfl

theorem mir_eq (R C : Nat) (xs : List Int) : mir R C xs = (((List.range xs.length).map (sig R C)).map (fun k => xs.getD k 0)).map swapI := by
  unfold mir
  rw [List.map_map, List.map_map]; rfl

theorem mir_perm {R C : Nat} {xs : List Int} (h2 : R ≤ 4) (h4 : C ≤ 4) (h9 : R * C ≤ 9) (hl : xs.length = R * C) : (mir R C xs).Perm (xs.map swapI) := by
  rw [mir_eq]
  refine List.Perm.map _ ?_
  have := (sig_perm h2 h4 h9).map (fun k => xs.getD k 0)
  rw [← hl, map_getD_range] at this
  exact this

theorem mir_length (R C : Nat) (xs : List Int) : (mir R C xs).length = xs.length := by simp [mir]

theorem count_swap (xs : List Int) : (xs.map swapI).count 1 = xs.count 2 := by
  induction xs with
  | nil => rfl
  | cons x xs ih => rw [List.map_cons, List.count_cons, List.count_cons, ih, swapI_one]

theorem mir_get {R C : Nat} {xs : List Int} {k : Nat} (hk : k < xs.length) : (mir R C xs)[k]? = some (swapI (xs.getD (sig R C k) 0)) := by
  unfold mir
  rw [List.getElem?_map, List.getElem?_range hk]; rfl

theorem mir_mir {R C : Nat} {xs : List Int} (h1 : 1 ≤ R) (h2 : R ≤ 4) (h3 : 1 ≤ C) (h4 : C ≤ 4) (h9 : R * C ≤ 9) (hl : xs.length = R * C) : mir C R (mir R C xs) = xs := by
  apply List.ext_getElem?
  intro k
  by_cases hk : k < xs.length
  · have hs := sig_lt (k := k) h3 h4 h1 h2 (by rw [Nat.mul_comm]; exact h9) (by rw [Nat.mul_comm C R]; omega)
    rw [Nat.mul_comm C R] at hs
    rw [mir_get (by rw [mir_length]; exact hk), List.getD_eq_getElem?_getD, mir_get (by omega), Option.getD_some, swapI_swapI, hs.2, List.getD_eq_getElem?_getD, List.getElem?_eq_getElem hk]; rfl
  · rw [List.getElem?_eq_none (by rw [mir_length, mir_length]; omega), List.getElem?_eq_none (by omega)]

theorem boardB_swap (r c : Int) : boardB c r = boardB r c := by
  unfold boardB
  rw [Int.mul_comm c r]
  apply decide_eq_decide.2
  constructor <;> intro h <;> omega

theorem posB_mir {r c : Int} {R C : Nat} {xs : List Int} (hs : Sides r c R C xs) (hp : posB r c xs = true) : posB c r (mir R C xs) = true := by
  obtain ⟨_, _, h1, h2, h3, h4, h9, hl, hall⟩ := hs
  unfold posB at hp ⊢
  rw [boardB_swap, mir_length, Int.mul_comm c r]
  rw [Bool.and_eq_true] at hp ⊢
  refine ⟨hp.1, ?_⟩
  rw [List.all_eq_true]
  intro x hx
  have := (mir_perm h2 h4 h9 hl).mem_iff.1 hx
  obtain ⟨y, hy, rfl⟩ := List.mem_map.1 this
  rw [swapI_content]
  exact List.all_eq_true.1 hall y hy

theorem cells_count {r c : Int} {xs : List Int} (h : posB r c xs = true) (x : Int) : (cellsL r c xs x).length = xs.count x := by
  unfold cellsL
  rw [if_pos h, cellsFrom_count]

theorem cells_mir {r c : Int} {R C : Nat} {xs : List Int} (hs : Sides r c R C xs) (hp : posB r c xs = true) : (cellsL c r (mir R C xs) 1).length = (cellsL r c xs 2).length := by
  obtain ⟨_, _, h1, h2, h3, h4, h9, hl, hall⟩ := id hs
  rw [cells_count (posB_mir hs hp), cells_count hp, (mir_perm h2 h4 h9 hl).count_eq, count_swap]

end Go.Proofs.YtiflfnlpkhghpaaDoor
