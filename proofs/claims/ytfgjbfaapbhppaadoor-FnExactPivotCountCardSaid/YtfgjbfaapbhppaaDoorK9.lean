/- Texts of this seat, in their order, put together by program. -/
import Derived.Test.YtfgjbfaapbhppaaDoorK8
set_option linter.unusedSimpArgs false
set_option linter.unusedVariables false
set_option linter.unusedSectionVars false
/- What the laws of chapter 2 say of positions, as facts on sets of cells. No program text. -/
namespace Go.Proofs.YtfgjbfaapbhppaaDoor

/-! ### joined sides -/
theorem joins_iff {R C P S : Nat} (hS : S < 2 ^ 9) : joinsN R C P S = true ↔ ∃ j, (sideN R C P true).testBit j = true ∧ Reach (masksN R C) S (sideN R C P false) j := by
  unfold joinsN
  rw [Bool.not_eq_true', decide_eq_false_iff_not]
  constructor
  · intro h
    apply Classical.byContradiction
    intro hn
    exact h (and_zero.2 fun j h1 h2 => hn ⟨j, h2, (grow_bit hS j).1 h1⟩)
  · rintro ⟨j, h1, h2⟩ h
    exact and_zero.1 h j ((grow_bit hS j).2 h2) h1

theorem joins_mono {R C P S T : Nat} (hS : S < 2 ^ 9) (hT : T < 2 ^ 9) (h : ∀ j, S.testBit j = true → T.testBit j = true) (hj : joinsN R C P S = true) : joinsN R C P T = true := by
  obtain ⟨j, h1, h2⟩ := (joins_iff hS).1 hj
  exact (joins_iff hT).2 ⟨j, h1, h2.mono h (fun _ h => h)⟩

theorem compl_bit {n S : Nat} (hS : S < 2 ^ n) (j : Nat) : (2 ^ n - 1 - S).testBit j = (decide (j < n) && !S.testBit j) := by
  rw [Nat.sub_sub, Nat.add_comm 1 S]; exact Nat.testBit_two_pow_sub_succ hS j

theorem hex {R C P S : Nat} (hB : BoardOf R C) (hP : P = 1 ∨ P = 2) (hS : S < 2 ^ (R * C)) : joinsN R C P S = !joinsN R C (3 - P) (2 ^ (R * C) - 1 - S) := by
  have key : ∀ T, T < 2 ^ (R * C) → joinsN R C 1 T = !joinsN R C 2 (2 ^ (R * C) - 1 - T) := fun T hT => by
    have := hex_ok hB hT
    unfold hexB at this
    simp only [Bool.and_eq_true] at this
    have := this.1.1.1.1
    cases h1 : joinsN R C 1 T <;> cases h2 : joinsN R C 2 (2 ^ (R * C) - 1 - T) <;> rw [h1, h2] at this <;> first | rfl | cases this
  rcases hP with rfl | rfl
  · exact key S hS
  · have h2 := key (2 ^ (R * C) - 1 - S) (by omega)
    rw [show 2 ^ (R * C) - 1 - (2 ^ (R * C) - 1 - S) = S by omega] at h2
    rw [show 3 - 2 = 1 from rfl, h2, Bool.not_not]

theorem content_cases {R C : Nat} {r c : Int} {xs : List Int} (hs : Sides r c R C xs) {j : Nat} (hj : j < R * C) : xs[j]? = some 0 ∨ xs[j]? = some 1 ∨ xs[j]? = some 2 := by
  obtain ⟨_, _, _, _, _, _, _, hlen, hall⟩ := hs
  have hj' : j < xs.length := by omega
  have := List.all_eq_true.1 hall _ (List.getElem_mem hj')
  unfold contentB at this
  have := of_decide_eq_true this
  rw [List.getElem?_eq_getElem hj']
  have h3 : xs[j] = 0 ∨ xs[j] = 1 ∨ xs[j] = 2 := by omega
  rcases h3 with h | h | h <;> rw [h] <;> simp

theorem set_lt {R C : Nat} {r c : Int} {xs : List Int} (hs : Sides r c R C xs) (w : Int) : setL xs w < 2 ^ (R * C) := setL_lt w (by have := hs.2.2.2.2.2.2.2.1; omega)
theorem set_lt9 {R C : Nat} {r c : Int} {xs : List Int} (hs : Sides r c R C xs) (w : Int) : setL xs w < 2 ^ 9 := setL_lt w (by have := hs.2.2.2.2.2.2.2.1; have := hs.2.2.2.2.2.2.1; omega)

theorem set_in {R C : Nat} {r c : Int} {xs : List Int} (hs : Sides r c R C xs) {w : Int} {j : Nat} (h : (setL xs w).testBit j = true) : j < R * C := bit_small (set_lt hs w) h

/-- The cells that are not the other one's. -/
theorem own_free {R C P : Nat} {r c : Int} {xs : List Int} (hs : Sides r c R C xs) (hP : P = 1 ∨ P = 2) : 2 ^ (R * C) - 1 - setL xs ((3 - P : Nat) : Int) = setL xs (P : Int) ||| setL xs 0 := by
  apply Nat.eq_of_testBit_eq
  intro j
  rw [compl_bit (set_lt hs _), Nat.testBit_or, Bool.eq_iff_iff, Bool.and_eq_true, Bool.or_eq_true, decide_eq_true_iff, Bool.not_eq_true']
  constructor
  · rintro ⟨hj, hn⟩
    have hn' : ¬ (setL xs ((3 - P : Nat) : Int)).testBit j = true := by rw [hn]; simp
    rw [setL_bit] at hn'
    rw [setL_bit, setL_bit]
    rcases hP with rfl | rfl <;> rcases content_cases hs hj with h | h | h <;> rw [h] at hn' ⊢ <;> first | (left; rfl) | (right; rfl) | exact absurd rfl hn'
  · intro h
    have hj : j < R * C := by rcases h with h | h <;> exact set_in hs h
    refine ⟨hj, ?_⟩
    cases e : (setL xs ((3 - P : Nat) : Int)).testBit j with
    | false => rfl
    | true =>
      rw [setL_bit] at e
      rw [setL_bit, setL_bit, e] at h
      rcases hP with rfl | rfl <;> rcases h with h | h <;> cases h

theorem joinsL_eq {R C P : Nat} {xs : List Int} (hb : posB (R : Int) (C : Int) xs = true) (hP : P = 1 ∨ P = 2) : joinsL (R : Int) (C : Int) xs (P : Int) = joinsN R C P (setL xs (P : Int)) := by
  have hp : playerB (P : Int) = true := by rcases hP with rfl | rfl <;> rfl
  unfold joinsL
  rw [hb, hp]; rfl

/-- The other one has joined just if all but its stones do not join. -/
theorem other_joins {R C P : Nat} {r c : Int} {xs : List Int} (hs : Sides r c R C xs) (hP : P = 1 ∨ P = 2) : joinsN R C P (setL xs (P : Int) ||| setL xs 0) = !joinsN R C (3 - P) (setL xs ((3 - P : Nat) : Int)) := by
  have hB := board_of_sides hs
  have hP' : 3 - P = 1 ∨ 3 - P = 2 := by omega
  have := hex hB hP' (set_lt hs ((3 - P : Nat) : Int))
  rw [own_free hs hP, show 3 - (3 - P) = P by omega] at this
  rw [this, Bool.not_not]

theorem never_both {R C P : Nat} {r c : Int} {xs : List Int} (hs : Sides r c R C xs) (hP : P = 1 ∨ P = 2) (h : joinsN R C P (setL xs (P : Int)) = true) : joinsN R C (3 - P) (setL xs ((3 - P : Nat) : Int)) = false := by
  have hm := joins_mono (set_lt9 hs _) (Nat.or_lt_two_pow (set_lt9 hs _) (set_lt9 hs 0)) (fun j hj => by rw [Nat.testBit_or, hj]; rfl) h
  rw [other_joins hs hP] at hm
  simpa using hm

/-! ### filled -/
theorem filled_set {R C P : Nat} {r c : Int} {xs : List Int} (hs : Sides r c R C xs) (hP : P = 1 ∨ P = 2) : setL (xs.map (fillL (P : Int))) (P : Int) = setL xs (P : Int) ||| setL xs 0 ∧ setL (xs.map (fillL (P : Int))) ((3 - P : Nat) : Int) = setL xs ((3 - P : Nat) : Int) ∧ setL (xs.map (fillL (P : Int))) 0 = 0 := by
  refine ⟨?_, ?_, ?_⟩ <;> apply Nat.eq_of_testBit_eq <;> intro j <;> rw [Bool.eq_iff_iff]
  · rw [Nat.testBit_or, Bool.or_eq_true, setL_bit, setL_bit, setL_bit, List.getElem?_map]
    cases e : xs[j]? with
    | none => simp
    | some x =>
      simp only [Option.map_some, Option.some.injEq]
      unfold fillL
      split
      · rename_i h; subst h; simp
      · rename_i h; simp [h]
  · rw [setL_bit, setL_bit, List.getElem?_map]
    cases e : xs[j]? with
    | none => simp
    | some x =>
      simp only [Option.map_some, Option.some.injEq]
      unfold fillL
      split
      · rename_i h; subst h; rcases hP with rfl | rfl <;> simp
      · exact Iff.rfl
  · rw [setL_bit, List.getElem?_map, Nat.zero_testBit]
    cases e : xs[j]? with
    | none => simp
    | some x =>
      simp only [Option.map_some, Option.some.injEq]
      unfold fillL
      split
      · rcases hP with rfl | rfl <;> simp
      · rename_i h; simp [h]

theorem filled_pos {P : Nat} {r c : Int} {xs : List Int} (hb : posB r c xs = true) (hP : P = 1 ∨ P = 2) : posB r c (xs.map (fillL (P : Int))) = true := by
  unfold posB at hb ⊢
  rw [List.length_map]
  rw [Bool.and_eq_true] at hb ⊢
  refine ⟨hb.1, ?_⟩
  rw [List.all_map, List.all_eq_true]
  intro x hx
  have := List.all_eq_true.1 hb.2 x hx
  show contentB (fillL (P : Int) x) = true
  unfold fillL
  split
  · rcases hP with rfl | rfl <;> rfl
  · exact this

/-! ### turned and mirrored -/
theorem moved_bit (f : Nat → Nat) (S : Nat) : ∀ (n j : Nat), (moved f S n).testBit j = true ↔ ∃ k, k < n ∧ S.testBit k = true ∧ j = f k
  | 0, j => by simp [moved]
  | n + 1, j => by
    rw [moved, Nat.testBit_or, Bool.or_eq_true, moved_bit f S n j]
    have hlast : ((if S.testBit n = true then 1 <<< f n else 0).testBit j = true) ↔ (S.testBit n = true ∧ j = f n) := by
      by_cases h : S.testBit n = true
      · rw [if_pos h, one_bit, decide_eq_true_iff]; simp [h]
      · rw [if_neg h, Nat.zero_testBit]; simp [h]
    rw [hlast]
    constructor
    · rintro (⟨k, h1, h2, h3⟩ | ⟨h1, h2⟩)
      · exact ⟨k, by omega, h2, h3⟩
      · exact ⟨n, by omega, h1, h2⟩
    · rintro ⟨k, h1, h2, h3⟩
      by_cases e : k = n
      · subst e; exact .inr ⟨h2, h3⟩
      · exact .inl ⟨k, by omega, h2, h3⟩

theorem setL_reverse (xs : List Int) (w : Int) : setL xs.reverse w = moved (fun k => xs.length - 1 - k) (setL xs w) xs.length := by
  apply Nat.eq_of_testBit_eq
  intro j
  rw [Bool.eq_iff_iff, setL_bit, moved_bit]
  constructor
  · intro h
    have hj : j < xs.length := by
      have := (List.getElem?_eq_some_iff.1 h).1
      rwa [List.length_reverse] at this
    rw [List.getElem?_reverse hj] at h
    exact ⟨xs.length - 1 - j, by omega, setL_bit.2 h, by omega⟩
  · rintro ⟨k, h1, h2, rfl⟩
    rw [List.getElem?_reverse (by omega), show xs.length - 1 - (xs.length - 1 - k) = k by omega]
    exact setL_bit.1 h2

theorem setL_mir {R C : Nat} {r c : Int} {xs : List Int} (hs : Sides r c R C xs) (w : Int) : setL (mir R C xs) (swapI w) = moved (sig C R) (setL xs w) (R * C) := by
  obtain ⟨_, _, h1, h2, h3, h4, h9, hlen, _⟩ := hs
  apply Nat.eq_of_testBit_eq
  intro j
  rw [Bool.eq_iff_iff, setL_bit, moved_bit]
  constructor
  · intro h
    have hj : j < xs.length := by
      have := (List.getElem?_eq_some_iff.1 h).1
      rwa [mir_length] at this
    have hsg := sig_lt (k := j) h1 h2 h3 h4 h9 (by omega)
    rw [mir_get hj] at h
    have hk : sig R C j < xs.length := by omega
    have := congrArg swapI (Option.some.inj h)
    rw [swapI_swapI, swapI_swapI, List.getD_eq_getElem?_getD, List.getElem?_eq_getElem hk] at this
    refine ⟨sig R C j, by omega, setL_bit.2 ?_, hsg.2.symm⟩
    rw [List.getElem?_eq_getElem hk]
    exact congrArg some this
  · rintro ⟨k, hk, hb, rfl⟩
    have hsg := sig_lt (k := k) h3 h4 h1 h2 (by rw [Nat.mul_comm]; exact h9) (by rw [Nat.mul_comm C R]; exact hk)
    rw [Nat.mul_comm C R] at hsg
    have hkl : k < xs.length := by omega
    rw [mir_get (by omega), hsg.2, List.getD_eq_getElem?_getD, setL_bit.1 hb]; rfl

theorem swap_player {P : Nat} (hP : P = 1 ∨ P = 2) : swapI (P : Int) = ((3 - P : Nat) : Int) := by rcases hP with rfl | rfl <;> rfl

theorem joins_turned {R C P : Nat} {r c : Int} {xs : List Int} (hs : Sides r c R C xs) (hP : P = 1 ∨ P = 2) : joinsN R C P (setL xs.reverse (P : Int)) = joinsN R C P (setL xs (P : Int)) := by
  have hlen := hs.2.2.2.2.2.2.2.1
  have hh := hex_ok (board_of_sides hs) (set_lt hs (P : Int))
  unfold hexB at hh
  simp only [Bool.and_eq_true, beq_iff_eq] at hh
  rw [setL_reverse, hlen]
  rcases hP with rfl | rfl
  · exact hh.1.1.1.2
  · exact hh.1.1.2

theorem joins_mirrored {R C P : Nat} {r c : Int} {xs : List Int} (hs : Sides r c R C xs) (hP : P = 1 ∨ P = 2) : joinsN C R (3 - P) (setL (mir R C xs) ((3 - P : Nat) : Int)) = joinsN R C P (setL xs (P : Int)) := by
  have hh := hex_ok (board_of_sides hs) (set_lt hs (P : Int))
  unfold hexB at hh
  simp only [Bool.and_eq_true, beq_iff_eq] at hh
  rw [← swap_player hP, setL_mir hs]
  rcases hP with rfl | rfl
  · exact hh.1.2
  · exact hh.2

/-! ### gaps -/
theorem gap_spec {R C P : Nat} {r c : Int} {xs : List Int} (hs : Sides r c R C xs) :
    (∃ k : Nat, gapN (masksN R C) (setL xs (P : Int)) (setL xs 0) (sideN R C P false) (sideN R C P true) (R * C) = (k : Int) ∧ IsGap (masksN R C) (setL xs (P : Int)) (setL xs 0) (sideN R C P false) (sideN R C P true) k) ∨
    (gapN (masksN R C) (setL xs (P : Int)) (setL xs 0) (sideN R C P false) (sideN R C P true) (R * C) = -1 ∧ ∀ k, ¬ Hits (masksN R C) (setL xs (P : Int)) (setL xs 0) (sideN R C P false) (sideN R C P true) k) :=
  gapN_spec hs.2.2.2.2.2.2.1 (set_lt9 hs _) (set_lt hs 0)

theorem hits_zero {M : List Nat} {own free edge last : Nat} : Hits M own free edge last 0 ↔ ∃ j, last.testBit j = true ∧ Reach M own edge j := by
  unfold Hits
  constructor
  · rintro ⟨j, h1, h2⟩; exact ⟨j, h1, cost_zero.1 h2⟩
  · rintro ⟨j, h1, h2⟩; exact ⟨j, h1, cost_zero.2 h2⟩

theorem hits_any {M : List Nat} {own free edge last : Nat} : (∃ k, Hits M own free edge last k) ↔ ∃ j, last.testBit j = true ∧ Reach M (own ||| free) edge j := by
  unfold Hits
  constructor
  · rintro ⟨k, j, h1, h2⟩; exact ⟨j, h1, cost_any.1 ⟨k, h2⟩⟩
  · rintro ⟨j, h1, h2⟩
    obtain ⟨k, h2⟩ := cost_any.2 h2
    exact ⟨k, j, h1, h2⟩

theorem gap_zero_iff {R C P : Nat} {r c : Int} {xs : List Int} (hs : Sides r c R C xs) : gapN (masksN R C) (setL xs (P : Int)) (setL xs 0) (sideN R C P false) (sideN R C P true) (R * C) = 0 ↔ joinsN R C P (setL xs (P : Int)) = true := by
  rw [joins_iff (set_lt9 hs _), ← hits_zero (free := setL xs 0)]
  rcases gap_spec (P := P) hs with ⟨k, hk, hg⟩ | ⟨hk, hn⟩
  · rw [hk]
    constructor
    · intro h; obtain rfl : k = 0 := by omega
      exact hg.1
    · intro h
      rcases Nat.eq_zero_or_pos k with h0 | h0
      · rw [h0]; rfl
      · exact absurd h (hg.2 0 h0)
  · rw [hk]
    constructor
    · intro h; cases h
    · intro h; exact absurd h (hn 0)

theorem gap_none_iff {R C P : Nat} {r c : Int} {xs : List Int} (hs : Sides r c R C xs) (hP : P = 1 ∨ P = 2) : gapN (masksN R C) (setL xs (P : Int)) (setL xs 0) (sideN R C P false) (sideN R C P true) (R * C) = -1 ↔ joinsN R C (3 - P) (setL xs ((3 - P : Nat) : Int)) = true := by
  have ho := other_joins hs hP
  have hany : (∃ k, Hits (masksN R C) (setL xs (P : Int)) (setL xs 0) (sideN R C P false) (sideN R C P true) k) ↔ joinsN R C P (setL xs (P : Int) ||| setL xs 0) = true := by
    rw [joins_iff (Nat.or_lt_two_pow (set_lt9 hs _) (set_lt9 hs 0)), hits_any]
  rcases gap_spec (P := P) hs with ⟨k, hk, hg⟩ | ⟨hk, hn⟩
  · have := hany.1 ⟨k, hg.1⟩
    rw [ho] at this
    rw [hk]
    constructor
    · intro h; omega
    · intro h; rw [h] at this; cases this
  · rw [hk]
    refine ⟨fun _ => ?_, fun _ => rfl⟩
    have : ¬ joinsN R C P (setL xs (P : Int) ||| setL xs 0) = true := fun h => by
      obtain ⟨k, h⟩ := hany.2 h
      exact hn k h
    rw [ho] at this
    simpa using this

/-- A stone more on a free cell. -/
theorem set_more {R C P : Nat} {r c : Int} {xs : List Int} (hs : Sides r c R C xs) (hP : P = 1 ∨ P = 2) {k : Nat} (hk : xs[k]? = some 0) : setL (xs.set k (P : Int)) (P : Int) = setL xs (P : Int) ||| (1 <<< k) ∧ setL (xs.set k (P : Int)) 0 = without (setL xs 0) k ∧ Sides r c R C (xs.set k (P : Int)) := by
  have hkl : k < xs.length := (List.getElem?_eq_some_iff.1 hk).1
  refine ⟨?_, ?_, ?_⟩
  · apply Nat.eq_of_testBit_eq
    intro j
    rw [with_bit, Bool.eq_iff_iff, Bool.or_eq_true, decide_eq_true_iff, setL_bit, setL_bit, List.getElem?_set]
    by_cases e : k = j
    · subst e; simp [hkl]
    · rw [if_neg e]
      constructor
      · exact .inl
      · rintro (h | h)
        · exact h
        · exact absurd h.symm e
  · apply Nat.eq_of_testBit_eq
    intro j
    rw [without_bit, Bool.eq_iff_iff, Bool.and_eq_true, decide_eq_true_iff, setL_bit, setL_bit, List.getElem?_set]
    by_cases e : k = j
    · subst e
      rcases hP with rfl | rfl <;> simp [hkl]
    · rw [if_neg e]
      exact ⟨fun h => ⟨h, fun h2 => e h2.symm⟩, fun h => h.1⟩
  · obtain ⟨a1, a2, a3, a4, a5, a6, a7, a8, a9⟩ := hs
    refine ⟨a1, a2, a3, a4, a5, a6, a7, by rw [List.length_set]; exact a8, ?_⟩
    rw [List.all_eq_true]
    intro x hx
    rcases List.mem_or_eq_of_mem_set hx with hx | rfl
    · exact List.all_eq_true.1 a9 x hx
    · rcases hP with rfl | rfl <;> rfl

theorem gap_stone {R C P : Nat} {r c : Int} {xs : List Int} (hs : Sides r c R C xs) (hP : P = 1 ∨ P = 2) {k : Nat} (hk : xs[k]? = some 0) {G : Nat} (hG : IsGap (masksN R C) (setL xs (P : Int)) (setL xs 0) (sideN R C P false) (sideN R C P true) G) :
    gapN (masksN R C) (setL (xs.set k (P : Int)) (P : Int)) (setL (xs.set k (P : Int)) 0) (sideN R C P false) (sideN R C P true) (R * C) = (G : Int) ∨
    (1 ≤ G ∧ gapN (masksN R C) (setL (xs.set k (P : Int)) (P : Int)) (setL (xs.set k (P : Int)) 0) (sideN R C P false) (sideN R C P true) (R * C) = (G : Int) - 1) := by
  obtain ⟨e1, e2, hs'⟩ := set_more hs hP hk
  have hm := gap_more (setL_bit.2 hk) hG
  rcases gap_spec (P := P) hs' with ⟨K, hK, hg⟩ | ⟨hK, hn⟩
  · rw [hK]
    rw [e1, e2] at hg
    rcases hm with hm | ⟨h1, hm⟩
    · exact .inl (by rw [hg.unique hm])
    · exact .inr ⟨h1, by have := hg.unique hm; omega⟩
  · rw [e1, e2] at hn
    rcases hm with hm | ⟨_, hm⟩
    · exact absurd hm.1 (hn _)
    · exact absurd hm.1 (hn _)

/-! ### the cells that close a gap -/
def goodB (M : List Nat) (own free edge last n c : Nat) : Bool := free.testBit c && decide (gapN M (own ||| (1 <<< c)) (without free c) edge last n = gapN M own free edge last n - 1)

theorem gapN_is {M : List Nat} {own free edge last n k : Nat} (hn : n ≤ 9) (ho : own < 2 ^ 9) (hf : free < 2 ^ n) (h : IsGap M own free edge last k) : gapN M own free edge last n = (k : Int) := by
  rcases gapN_spec (M := M) (edge := edge) (last := last) hn ho hf with ⟨k', hk, hg⟩ | ⟨_, hno⟩
  · rw [hk, hg.unique h]
  · exact absurd h.1 (hno k)

theorem with_lt {x c n : Nat} (hx : x < 2 ^ n) (hc : c < n) : x ||| (1 <<< c) < 2 ^ n := by
  refine Nat.or_lt_two_pow hx ?_
  rw [Nat.one_shiftLeft]; exact Nat.pow_lt_pow_right (by decide) hc

theorem good_count {M : List Nat} {edge last n : Nat} (hn : n ≤ 9) : ∀ {K own free : Nat}, own < 2 ^ 9 → free < 2 ^ n → IsGap M own free edge last K → K ≤ (List.range n).countP (goodB M own free edge last n)
  | 0, _, _, _, _, _ => Nat.zero_le _
  | K + 1, own, free, ho, hf, h => by
    obtain ⟨c1, hc1, hg1⟩ := gap_cell h
    have hc1n := bit_small hf hc1
    have ho1 : own ||| (1 <<< c1) < 2 ^ 9 := with_lt ho (by omega)
    have hf1 : without free c1 < 2 ^ n := without_lt hf
    have ih := good_count hn ho1 hf1 hg1
    have hG := gapN_is hn ho hf h
    have hG1 := gapN_is hn ho1 hf1 hg1
    have hp : goodB M own free edge last n c1 = true := by
      unfold goodB
      rw [hc1, hG1, hG, decide_eq_true (by omega)]; rfl
    have hq : goodB M (own ||| (1 <<< c1)) (without free c1) edge last n c1 = false := by
      unfold goodB
      rw [without_bit]; simp
    have hqp : ∀ x ∈ List.range n, goodB M (own ||| (1 <<< c1)) (without free c1) edge last n x = true → goodB M own free edge last n x = true := by
      intro x hx hg
      rw [List.mem_range] at hx
      unfold goodB at hg ⊢
      rw [Bool.and_eq_true, decide_eq_true_iff, without_bit, Bool.and_eq_true, decide_eq_true_iff] at hg
      obtain ⟨⟨hfx, hne⟩, hgx⟩ := hg
      rw [hfx, Bool.true_and, decide_eq_true_iff, hG]
      rw [hG1] at hgx
      have hox : own ||| (1 <<< x) < 2 ^ 9 := with_lt ho (by omega)
      rcases gap_more hfx h with hm | ⟨_, hm⟩
      · exfalso
        have hcx : (without free x).testBit c1 = true := by rw [without_bit, hc1]; simp; exact fun e => hne e.symm
        have hsame : own ||| (1 <<< x) ||| (1 <<< c1) = own ||| (1 <<< c1) ||| (1 <<< x) := by rw [Nat.or_assoc, Nat.or_comm (1 <<< x), ← Nat.or_assoc]
        have hsame2 : without (without free x) c1 = without (without free c1) x := by
          apply Nat.eq_of_testBit_eq
          intro j
          rw [without_bit, without_bit, without_bit, without_bit, Bool.and_assoc, Bool.and_comm (decide (j ≠ x)), ← Bool.and_assoc]
        rcases gap_more hcx hm with hmm | ⟨_, hmm⟩
        · rw [hsame, hsame2] at hmm
          have := gapN_is hn (with_lt ho1 (by omega)) (without_lt hf1) hmm
          omega
        · rw [hsame, hsame2] at hmm
          have := gapN_is hn (with_lt ho1 (by omega)) (without_lt hf1) hmm
          omega
      · rw [gapN_is hn hox (without_lt hf) hm]; omega
    have := countP_lt hqp (show c1 ∈ List.range n by rw [List.mem_range]; exact hc1n) hp hq
    omega

end Go.Proofs.YtfgjbfaapbhppaaDoor

/- Who wins, told by the sets of both players' stones: what it is, that a stone more never harms, that to move never harms, and that turned and mirrored it is the same. No program text. -/
namespace Go.Proofs.YtfgjbfaapbhppaaDoor
open Go Go.Ip G

/-- A stone of the one to move. -/
def putA (t k a : Nat) : Nat := if t = 1 then a ||| (1 <<< k) else a
def putB (t k b : Nat) : Nat := if t = 1 then b else b ||| (1 <<< k)

def winF (R C : Nat) : Nat → Nat → Nat → Nat → Nat
  | 0, a, b, t => if joinsN R C 1 a = true then 1 else if joinsN R C 2 b = true then 2 else 3 - t
  | f + 1, a, b, t => if joinsN R C 1 a = true then 1 else if joinsN R C 2 b = true then 2 else
      if ((List.range (R * C)).any fun k => !(a ||| b).testBit k && decide (winF R C f (putA t k a) (putB t k b) (3 - t) = t)) = true then t else 3 - t

/-- The free cells. -/
def frN (n a b : Nat) : Nat := (List.range n).countP fun k => !(a ||| b).testBit k
def winN (R C a b t : Nat) : Nat := winF R C (R * C) a b t

theorem put_bit (t k a b j : Nat) : (putA t k a ||| putB t k b).testBit j = ((a ||| b).testBit j || decide (j = k)) := by
  unfold putA putB
  split
  · rw [Nat.testBit_or, with_bit, Nat.testBit_or]; cases a.testBit j <;> cases b.testBit j <;> simp
  · rw [Nat.testBit_or, with_bit, Nat.testBit_or, Bool.or_assoc]

theorem fr_put {n t k a b : Nat} (hk : k < n) (h : (a ||| b).testBit k = false) : frN n (putA t k a) (putB t k b) + 1 ≤ frN n a b := by
  refine countP_lt (c := k) (fun x _ hx => ?_) (List.mem_range.2 hk) (by show (!(a ||| b).testBit k) = true; rw [h]; rfl) (by show (!(putA t k a ||| putB t k b).testBit k) = false; rw [put_bit]; simp)
  rw [put_bit] at hx
  cases e : (a ||| b).testBit x with
  | false => rfl
  | true => rw [e] at hx; simp at hx

theorem fr_le (n a b : Nat) : frN n a b ≤ n := by
  have := List.countP_le_length (p := fun k => !(a ||| b).testBit k) (l := List.range n)
  rw [List.length_range] at this; exact this

theorem fr_zero {n a b : Nat} (h : frN n a b ≤ 0) {k : Nat} (hk : k < n) : (a ||| b).testBit k = true := by
  have h0 : frN n a b = 0 := by omega
  have := List.countP_eq_zero.1 h0 k (List.mem_range.2 hk)
  cases e : (a ||| b).testBit k with
  | true => rfl
  | false => rw [e] at this; exact (this rfl).elim

theorem winF_fuel {R C : Nat} : ∀ (f f' a b t : Nat), frN (R * C) a b ≤ f → frN (R * C) a b ≤ f' → winF R C f a b t = winF R C f' a b t
  | 0, 0, a, b, t, _, _ => rfl
  | 0, f' + 1, a, b, t, h, _ => by
    rw [winF, winF]
    have : ((List.range (R * C)).any fun k => !(a ||| b).testBit k && decide (winF R C f' (putA t k a) (putB t k b) (3 - t) = t)) = false := by
      rw [List.any_eq_false]
      intro k hk
      rw [fr_zero h (List.mem_range.1 hk)]; simp
    rw [this]; rfl
  | f + 1, 0, a, b, t, _, h => by
    rw [winF, winF]
    have : ((List.range (R * C)).any fun k => !(a ||| b).testBit k && decide (winF R C f (putA t k a) (putB t k b) (3 - t) = t)) = false := by
      rw [List.any_eq_false]
      intro k hk
      rw [fr_zero h (List.mem_range.1 hk)]; simp
    rw [this]; rfl
  | f + 1, f' + 1, a, b, t, h, h' => by
    rw [winF, winF]
    have : ((List.range (R * C)).any fun k => !(a ||| b).testBit k && decide (winF R C f (putA t k a) (putB t k b) (3 - t) = t)) = ((List.range (R * C)).any fun k => !(a ||| b).testBit k && decide (winF R C f' (putA t k a) (putB t k b) (3 - t) = t)) := by
      rw [Bool.eq_iff_iff, List.any_eq_true, List.any_eq_true]
      refine exists_congr fun k => and_congr_right fun hk => ?_
      rw [← Bool.eq_iff_iff]
      cases e : (a ||| b).testBit k with
      | true => rfl
      | false =>
        have := fr_put (t := t) (List.mem_range.1 hk) e
        rw [winF_fuel f f' (putA t k a) (putB t k b) (3 - t) (by omega) (by omega)]
    rw [this]

/-- What is asked of a position that nobody has won: is there a move after which the one to move wins? -/
def moveB (R C a b t : Nat) : Bool := (List.range (R * C)).any fun k => !(a ||| b).testBit k && decide (winN R C (putA t k a) (putB t k b) (3 - t) = t)

theorem winN_eq (R C a b t : Nat) : winN R C a b t = if joinsN R C 1 a = true then 1 else if joinsN R C 2 b = true then 2 else if moveB R C a b t = true then t else 3 - t := by
  have h1 : winN R C a b t = winF R C (R * C + 1) a b t := winF_fuel _ _ _ _ _ (fr_le _ _ _) (by have := fr_le (R * C) a b; omega)
  rw [h1, winF]; rfl

theorem moveB_iff {R C a b t : Nat} : moveB R C a b t = true ↔ ∃ k, k < R * C ∧ (a ||| b).testBit k = false ∧ winN R C (putA t k a) (putB t k b) (3 - t) = t := by
  unfold moveB
  rw [List.any_eq_true]
  constructor
  · rintro ⟨k, hk, h⟩
    rw [Bool.and_eq_true, decide_eq_true_eq] at h
    exact ⟨k, List.mem_range.1 hk, by simpa using h.1, h.2⟩
  · rintro ⟨k, hk, h1, h2⟩
    exact ⟨k, List.mem_range.2 hk, by rw [h1, h2]; simp⟩

theorem win_cases {R C a b t : Nat} (ht : t = 1 ∨ t = 2) : winN R C a b t = 1 ∨ winN R C a b t = 2 := by
  rw [winN_eq]
  repeat' split
  all_goals first | exact .inl rfl | exact .inr rfl | omega

/-- A position, by its two sets. -/
def Pos (R C a b : Nat) : Prop := a < 2 ^ (R * C) ∧ b < 2 ^ (R * C) ∧ ∀ j, a.testBit j = true → b.testBit j = true → False

theorem Pos.lt9 {R C a b : Nat} (hB : BoardOf R C) (h : Pos R C a b) : a < 2 ^ 9 ∧ b < 2 ^ 9 := by
  have : 2 ^ (R * C) ≤ 2 ^ 9 := Nat.pow_le_pow_right (by decide) hB.2.2.2.2
  exact ⟨Nat.lt_of_lt_of_le h.1 this, Nat.lt_of_lt_of_le h.2.1 this⟩

theorem Pos.put {R C a b t k : Nat} (h : Pos R C a b) (hk : k < R * C) (hf : (a ||| b).testBit k = false) : Pos R C (putA t k a) (putB t k b) := by
  rw [Nat.testBit_or, Bool.or_eq_false_iff] at hf
  have hl : 1 <<< k < 2 ^ (R * C) := by rw [Nat.one_shiftLeft]; exact Nat.pow_lt_pow_right (by decide) hk
  unfold putA putB
  split
  · refine ⟨Nat.or_lt_two_pow h.1 hl, h.2.1, fun j h1 h2 => ?_⟩
    rw [with_bit, Bool.or_eq_true, decide_eq_true_eq] at h1
    rcases h1 with h1 | rfl
    · exact h.2.2 j h1 h2
    · rw [hf.2] at h2; cases h2
  · refine ⟨h.1, Nat.or_lt_two_pow h.2.1 hl, fun j h1 h2 => ?_⟩
    rw [with_bit, Bool.or_eq_true, decide_eq_true_eq] at h2
    rcases h2 with h2 | rfl
    · exact h.2.2 j h1 h2
    · rw [hf.1] at h1; cases h1

/-- Never have both joined. -/
theorem Pos.both {R C a b : Nat} (hB : BoardOf R C) (h : Pos R C a b) (h1 : joinsN R C 1 a = true) : joinsN R C 2 b = false := by
  cases e : joinsN R C 2 b with
  | false => rfl
  | true =>
    have l9 := h.lt9 hB
    have hc : 2 ^ (R * C) - 1 - a < 2 ^ 9 := by
      have : 2 ^ (R * C) ≤ 2 ^ 9 := Nat.pow_le_pow_right (by decide) hB.2.2.2.2
      omega
    have h2 := joins_mono (P := 2) l9.2 hc (fun j hj => by
      rw [compl_bit h.1]
      have hjn := bit_small h.2.1 hj
      cases ea : a.testBit j with
      | false => simp [hjn]
      | true => exact (h.2.2 j ea hj).elim) e
    have h3 := hex hB (.inl rfl) h.1
    rw [h1, show 3 - 1 = 2 from rfl, h2] at h3
    cases h3

/-- If nobody has joined there is a free cell. -/
theorem Pos.free {R C a b : Nat} (hB : BoardOf R C) (h : Pos R C a b) (h1 : joinsN R C 1 a = false) (h2 : joinsN R C 2 b = false) : ∃ k, k < R * C ∧ (a ||| b).testBit k = false := by
  apply Classical.byContradiction
  intro hn
  have hall : ∀ k, k < R * C → (a ||| b).testBit k = true := fun k hk => by
    cases e : (a ||| b).testBit k with
    | true => rfl
    | false => exact (hn ⟨k, hk, e⟩).elim
  have hb : 2 ^ (R * C) - 1 - a = b := by
    apply Nat.eq_of_testBit_eq
    intro j
    rw [compl_bit h.1]
    by_cases hj : j < R * C
    · have := hall j hj
      rw [Nat.testBit_or, Bool.or_eq_true] at this
      cases ea : a.testBit j with
      | true =>
        cases eb : b.testBit j with
        | false => simp
        | true => exact (h.2.2 j ea eb).elim
      | false =>
        rw [ea] at this
        simp at this
        simp [hj, this]
    · cases eb : b.testBit j with
      | true => exact (hj (bit_small h.2.1 eb)).elim
      | false => simp [hj]
  have h3 := hex hB (.inl rfl) h.1
  rw [show 3 - 1 = 2 from rfl, hb, h1, h2] at h3
  cases h3

theorem win_first {R C a b t : Nat} (h : joinsN R C 1 a = true) : winN R C a b t = 1 := by rw [winN_eq, if_pos h]
theorem win_second {R C a b t : Nat} (hB : BoardOf R C) (hp : Pos R C a b) (h : joinsN R C 2 b = true) : winN R C a b t = 2 := by
  rw [winN_eq, if_neg, if_pos h]
  intro h1; rw [hp.both hB h1] at h; cases h
theorem win_open {R C a b t : Nat} (h1 : joinsN R C 1 a = false) (h2 : joinsN R C 2 b = false) : winN R C a b t = if moveB R C a b t = true then t else 3 - t := by
  rw [winN_eq, if_neg (by rw [h1]; decide), if_neg (by rw [h2]; decide)]

/-- No worse for the first player. -/
def Better (a b a' b' : Nat) : Prop := (∀ j, a.testBit j = true → a'.testBit j = true) ∧ (∀ j, b'.testBit j = true → b.testBit j = true)

theorem better_fr {n a b k : Nat} : Better a b (a ||| (1 <<< k)) b := ⟨fun j hj => by rw [with_bit, hj]; rfl, fun _ h => h⟩

theorem win_mono_aux {R C : Nat} (hB : BoardOf R C) : ∀ (M m a b a' b' t : Nat), frN (R * C) a' b' ≤ M → frN (R * C) a b ≤ m → Pos R C a b → Pos R C a' b' → Better a b a' b' → (t = 1 ∨ t = 2) → winN R C a b t = 1 → winN R C a' b' t = 1 := by
  intro M
  induction M using Nat.strongRecOn with
  | _ M ihM =>
  intro m
  induction m using Nat.strongRecOn with
  | _ m ihm =>
  intro a b a' b' t hM hm hp hp' hbt ht hw
  have l9 := hp.lt9 hB
  have l9' := hp'.lt9 hB
  cases j1' : joinsN R C 1 a' with
  | true => exact win_first j1'
  | false =>
  cases j1 : joinsN R C 1 a with
  | true => rw [joins_mono l9.1 l9'.1 hbt.1 j1] at j1'; cases j1'
  | false =>
  cases j2 : joinsN R C 2 b with
  | true => rw [win_second hB hp j2] at hw; cases hw
  | false =>
  cases j2' : joinsN R C 2 b' with
  | true => rw [joins_mono l9'.2 l9.2 hbt.2 j2'] at j2; cases j2
  | false =>
  obtain ⟨d, hd, hdf⟩ := hp'.free hB j1' j2'
  -- to move never harms, for smaller positions
  have extra : ∀ x y, Pos R C x y → frN (R * C) x y ≤ M → (∀ z, frN (R * C) z y < frN (R * C) x y → Pos R C z y → Better x y z y → winN R C z y 2 = 1) → winN R C x y 2 = 1 → winN R C x y 1 = 1 := by
    intro x y hxy hfr hmono hwx
    cases k1 : joinsN R C 1 x with
    | true => exact win_first k1
    | false =>
    cases k2 : joinsN R C 2 y with
    | true => rw [win_second hB hxy k2] at hwx; cases hwx
    | false =>
    obtain ⟨e, he, hef⟩ := hxy.free hB k1 k2
    rw [win_open k1 k2, if_pos]
    refine moveB_iff.2 ⟨e, he, hef, ?_⟩
    have h1 := fr_put (t := 1) he hef
    exact hmono (x ||| (1 <<< e)) (by exact h1) (hxy.put (t := 1) he hef) (better_fr (n := 0))
  rw [win_open j1 j2] at hw
  rcases ht with rfl | rfl
  · -- the first player to move
    have hmv : moveB R C a b 1 = true := by
      cases e : moveB R C a b 1 with
      | true => rfl
      | false => rw [e] at hw; simp at hw
    obtain ⟨c, hc, hcf, hcw⟩ := moveB_iff.1 hmv
    have hfc := fr_put (t := 1) hc hcf
    have hpc := hp.put (t := 1) hc hcf
    by_cases hc' : (a' ||| b').testBit c = false
    · rw [win_open j1' j2', if_pos]
      refine moveB_iff.2 ⟨c, hc, hc', ?_⟩
      have hfc' := fr_put (t := 1) hc hc'
      refine ihM (frN (R * C) (putA 1 c a') (putB 1 c b')) (by omega) _ (putA 1 c a) (putB 1 c b) _ _ _ (Nat.le_refl _) (Nat.le_refl _) hpc (hp'.put hc hc') ⟨fun j hj => ?_, fun j hj => hbt.2 j hj⟩ (.inr rfl) hcw
      simp only [putA, if_true] at hj ⊢
      rw [with_bit, Bool.or_eq_true] at hj ⊢
      exact hj.imp_left (hbt.1 j)
    · have hca : a'.testBit c = true := by
        rw [Nat.testBit_or] at hc' hcf
        rw [Bool.or_eq_false_iff] at hcf
        cases ea : a'.testBit c with
        | true => rfl
        | false =>
          rw [ea, Bool.false_or] at hc'
          have := hbt.2 c (by simpa using hc')
          rw [hcf.2] at this; cases this
      have hw2 : winN R C a' b' 2 = 1 := by
        refine ihm (frN (R * C) (putA 1 c a) (putB 1 c b)) (by omega) (putA 1 c a) (putB 1 c b) a' b' 2 hM (Nat.le_refl _) hpc hp' ⟨fun j hj => ?_, fun j hj => hbt.2 j hj⟩ (.inr rfl) hcw
        simp only [putA, if_true] at hj
        rw [with_bit, Bool.or_eq_true, decide_eq_true_eq] at hj
        rcases hj with hj | rfl
        · exact hbt.1 j hj
        · exact hca
      exact extra a' b' hp' hM (fun z hz hpz hbz => ihM _ (by omega) _ a' b' z b' 2 (Nat.le_refl _) (Nat.le_refl _) hp' hpz hbz (.inr rfl) hw2) hw2
  · -- the second player to move
    have hmv : moveB R C a b 2 = false := by
      cases e : moveB R C a b 2 with
      | false => rfl
      | true => rw [e] at hw; simp at hw
    have hall : ∀ k, k < R * C → (a ||| b).testBit k = false → winN R C (putA 2 k a) (putB 2 k b) 1 = 1 := fun k hk hkf => by
      rcases win_cases (R := R) (C := C) (a := putA 2 k a) (b := putB 2 k b) (t := 1) (.inl rfl) with h | h
      · exact h
      · rw [moveB_iff.2 ⟨k, hk, hkf, h⟩] at hmv; cases hmv
    have hw' : winN R C a b 2 = 1 := by rw [win_open j1 j2, hmv]; rfl
    rw [win_open j1' j2', if_neg]
    intro hmv'
    obtain ⟨e, he, hef, hew⟩ := moveB_iff.1 hmv'
    have hfe := fr_put (t := 2) he hef
    have hpe := hp'.put (t := 2) he hef
    have hne : winN R C (putA 2 e a') (putB 2 e b') 1 = 1 := by
      by_cases hef2 : (a ||| b).testBit e = false
      · refine ihM (frN (R * C) (putA 2 e a') (putB 2 e b')) (by omega) _ (putA 2 e a) (putB 2 e b) _ _ _ (Nat.le_refl _) (Nat.le_refl _) (hp.put he hef2) hpe ⟨fun j hj => hbt.1 j hj, fun j hj => ?_⟩ (.inl rfl) (hall e he hef2)
        simp only [putB] at hj ⊢
        rw [if_neg (by decide), with_bit, Bool.or_eq_true] at hj ⊢
        exact hj.imp_left (hbt.2 j)
      · have heb : b.testBit e = true := by
          rw [Nat.testBit_or] at hef2 hef
          rw [Bool.or_eq_false_iff] at hef
          cases eb : b.testBit e with
          | true => rfl
          | false =>
            rw [eb, Bool.or_false] at hef2
            have := hbt.1 e (by simpa using hef2)
            rw [hef.1] at this; cases this
        have hbt2 : Better a b (putA 2 e a') (putB 2 e b') := ⟨fun j hj => hbt.1 j hj, fun j hj => by
          simp only [putB] at hj
          rw [if_neg (by decide), with_bit, Bool.or_eq_true, decide_eq_true_eq] at hj
          rcases hj with hj | rfl
          · exact hbt.2 j hj
          · exact heb⟩
        have hw2 : winN R C (putA 2 e a') (putB 2 e b') 2 = 1 :=
          ihM (frN (R * C) (putA 2 e a') (putB 2 e b')) (by omega) _ a b _ _ _ (Nat.le_refl _) (Nat.le_refl _) hp hpe hbt2 (.inr rfl) hw'
        exact extra _ _ hpe (by omega) (fun z hz hpz hbz => ihM _ (by omega) _ _ _ z _ 2 (Nat.le_refl _) (Nat.le_refl _) hpe hpz hbz (.inr rfl) hw2) hw2
    rw [hne] at hew; cases hew

/-- A stone more never harms. -/
theorem win_mono {R C a b a' b' t : Nat} (hB : BoardOf R C) (hp : Pos R C a b) (hp' : Pos R C a' b') (hbt : Better a b a' b') (ht : t = 1 ∨ t = 2) (hw : winN R C a b t = 1) : winN R C a' b' t = 1 :=
  win_mono_aux hB _ _ a b a' b' t (Nat.le_refl _) (Nat.le_refl _) hp hp' hbt ht hw
theorem win_mono2 {R C a b a' b' t : Nat} (hB : BoardOf R C) (hp : Pos R C a b) (hp' : Pos R C a' b') (hbt : Better a b a' b') (ht : t = 1 ∨ t = 2) (hw : winN R C a' b' t = 2) : winN R C a b t = 2 := by
  rcases win_cases (R := R) (C := C) (a := a) (b := b) ht with h | h
  · rw [win_mono hB hp hp' hbt ht h] at hw; cases hw
  · exact h
/-- To move never harms. -/
theorem win_move {R C a b : Nat} (hB : BoardOf R C) (hp : Pos R C a b) (hw : winN R C a b 2 = 1) : winN R C a b 1 = 1 := by
  cases k1 : joinsN R C 1 a with
  | true => exact win_first k1
  | false =>
  cases k2 : joinsN R C 2 b with
  | true => rw [win_second hB hp k2] at hw; cases hw
  | false =>
  obtain ⟨e, he, hef⟩ := hp.free hB k1 k2
  rw [win_open k1 k2, if_pos]
  exact moveB_iff.2 ⟨e, he, hef, win_mono hB hp (hp.put (t := 1) he hef) (better_fr (n := 0)) (.inr rfl) hw⟩
theorem win_move2 {R C a b : Nat} (hB : BoardOf R C) (hp : Pos R C a b) (hw : winN R C a b 1 = 2) : winN R C a b 2 = 2 := by
  rcases win_cases (R := R) (C := C) (a := a) (b := b) (t := 2) (.inr rfl) with h | h
  · rw [win_move hB hp h] at hw; cases hw
  · exact h

/-! ### turned and mirrored -/
theorem moved_put {f : Nat → Nat} {S n k : Nat} (hk : k < n) : moved f (S ||| (1 <<< k)) n = moved f S n ||| (1 <<< f k) := by
  apply Nat.eq_of_testBit_eq
  intro j
  rw [Bool.eq_iff_iff, moved_bit, with_bit, Bool.or_eq_true, moved_bit, decide_eq_true_eq]
  constructor
  · rintro ⟨i, hi, h, rfl⟩
    rw [with_bit, Bool.or_eq_true, decide_eq_true_eq] at h
    rcases h with h | rfl
    · exact .inl ⟨i, hi, h, rfl⟩
    · exact .inr rfl
  · rintro (⟨i, hi, h, rfl⟩ | rfl)
    · exact ⟨i, hi, by rw [with_bit, h]; rfl, rfl⟩
    · exact ⟨k, hk, by rw [with_bit]; simp, rfl⟩

/-- Each place is taken by just one. -/
structure Perm (f : Nat → Nat) (n : Nat) : Prop where
  lt : ∀ k, k < n → f k < n
  inj : ∀ i k, i < n → k < n → f i = f k → i = k
  onto : ∀ j, j < n → ∃ k, k < n ∧ f k = j

theorem moved_at {f : Nat → Nat} {S n k : Nat} (hf : Perm f n) (hk : k < n) : (moved f S n).testBit (f k) = S.testBit k := by
  rw [Bool.eq_iff_iff, moved_bit]
  constructor
  · rintro ⟨i, hi, h, e⟩
    rw [hf.inj k i hk hi e]; exact h
  · intro h; exact ⟨k, hk, h, rfl⟩

theorem moved_lt {f : Nat → Nat} {S n : Nat} (hf : Perm f n) : moved f S n < 2 ^ n := by
  apply Nat.lt_pow_two_of_testBit
  intro i hi
  cases e : (moved f S n).testBit i with
  | false => rfl
  | true =>
    obtain ⟨k, hk, _, rfl⟩ := (moved_bit f S n i).1 e
    have := hf.lt k hk
    omega

theorem Pos.moved {R C R' C' a b : Nat} {f : Nat → Nat} (hn : R' * C' = R * C) (hf : Perm f (R * C)) (h : Pos R C a b) : Pos R' C' (moved f a (R * C)) (moved f b (R * C)) := by
  refine ⟨by rw [hn]; exact moved_lt hf, by rw [hn]; exact moved_lt hf, fun j h1 h2 => ?_⟩
  obtain ⟨i, hi, ha, rfl⟩ := (moved_bit _ _ _ _).1 h1
  rw [moved_at hf hi] at h2
  exact h.2.2 i ha h2

theorem any_perm {f : Nat → Nat} {n : Nat} (hf : Perm f n) {p q : Nat → Bool} (h : ∀ k, k < n → p (f k) = q k) : (List.range n).any p = (List.range n).any q := by
  rw [Bool.eq_iff_iff, List.any_eq_true, List.any_eq_true]
  constructor
  · rintro ⟨j, hj, hp⟩
    obtain ⟨k, hk, rfl⟩ := hf.onto j (List.mem_range.1 hj)
    exact ⟨k, List.mem_range.2 hk, by rw [← h k hk]; exact hp⟩
  · rintro ⟨k, hk, hq⟩
    exact ⟨f k, List.mem_range.2 (hf.lt k (List.mem_range.1 hk)), by rw [h k (List.mem_range.1 hk)]; exact hq⟩

theorem anyB_moved {R C : Nat} {f : Nat → Nat} (hf : Perm f (R * C)) {a b t : Nat} {F G : Nat → Nat → Nat} {u : Nat}
    (h : ∀ k, k < R * C → (a ||| b).testBit k = false → (F (putA u (f k) (moved f a (R * C))) (putB u (f k) (moved f b (R * C))) = u ↔ G (putA t k a) (putB t k b) = t)) :
    ((List.range (R * C)).any fun k => !(moved f a (R * C) ||| moved f b (R * C)).testBit k && decide (F (putA u k (moved f a (R * C))) (putB u k (moved f b (R * C))) = u)) = ((List.range (R * C)).any fun k => !(a ||| b).testBit k && decide (G (putA t k a) (putB t k b) = t)) := by
  refine any_perm hf fun k hk => ?_
  rw [Nat.testBit_or, moved_at hf hk, moved_at hf hk, ← Nat.testBit_or]
  cases e : (a ||| b).testBit k with
  | true => rfl
  | false => exact congrArg (fun x => !false && x) (decide_eq_decide.2 (h k hk e))

theorem putA_moved {f : Nat → Nat} {n t k a : Nat} (hk : k < n) : putA t (f k) (moved f a n) = moved f (putA t k a) n := by
  unfold putA; split
  · exact (moved_put hk).symm
  · rfl
theorem putB_moved {f : Nat → Nat} {n t k b : Nat} (hk : k < n) : putB t (f k) (moved f b n) = moved f (putB t k b) n := by
  unfold putB; split
  · rfl
  · exact (moved_put hk).symm
theorem putA_swap {f : Nat → Nat} {n t k b : Nat} (ht : t = 1 ∨ t = 2) (hk : k < n) : putA (3 - t) (f k) (moved f b n) = moved f (putB t k b) n := by
  rcases ht with rfl | rfl
  · rfl
  · exact (moved_put hk).symm
theorem putB_swap {f : Nat → Nat} {n t k a : Nat} (ht : t = 1 ∨ t = 2) (hk : k < n) : putB (3 - t) (f k) (moved f a n) = moved f (putA t k a) n := by
  rcases ht with rfl | rfl
  · exact (moved_put hk).symm
  · rfl

theorem winN_moved {R C R' C' : Nat} {f : Nat → Nat} (hB : BoardOf R C) (hB' : BoardOf R' C') (hn : R' * C' = R * C) (hf : Perm f (R * C)) (h1 : ∀ S, S < 2 ^ (R * C) → joinsN R' C' 1 (moved f S (R * C)) = joinsN R C 1 S) (h2 : ∀ S, S < 2 ^ (R * C) → joinsN R' C' 2 (moved f S (R * C)) = joinsN R C 2 S) :
    ∀ (m a b t : Nat), frN (R * C) a b ≤ m → Pos R C a b → winN R' C' (moved f a (R * C)) (moved f b (R * C)) t = winN R C a b t := by
  intro m
  induction m with
  | zero =>
    intro a b t hm hp
    rw [winN_eq, winN_eq, h1 a hp.1, h2 b hp.2.1]
    cases e1 : joinsN R C 1 a with
    | true => simp only [↓reduceIte]
    | false =>
      cases e2 : joinsN R C 2 b with
      | true => simp only [Bool.false_eq_true, ↓reduceIte]
      | false =>
        obtain ⟨k, hk, hkf⟩ := hp.free hB e1 e2
        rw [fr_zero hm hk] at hkf; cases hkf
  | succ m ih =>
    intro a b t hm hp
    rw [winN_eq, winN_eq, h1 a hp.1, h2 b hp.2.1]
    have : moveB R' C' (moved f a (R * C)) (moved f b (R * C)) t = moveB R C a b t := by
      unfold moveB
      rw [hn]
      refine anyB_moved hf (F := fun x y => winN R' C' x y (3 - t)) (G := fun x y => winN R C x y (3 - t)) fun k hk e => ?_
      have := fr_put (t := t) hk e
      show winN R' C' _ _ (3 - t) = t ↔ _
      rw [putA_moved hk, putB_moved hk, ih _ _ _ (by omega) (hp.put hk e)]
    rw [this]

theorem anyB_swap {R C : Nat} {f : Nat → Nat} (hf : Perm f (R * C)) {a b t u : Nat} {F G : Nat → Nat → Nat}
    (h : ∀ k, k < R * C → (a ||| b).testBit k = false → (F (putA u (f k) (moved f b (R * C))) (putB u (f k) (moved f a (R * C))) = u ↔ G (putA t k a) (putB t k b) = t)) :
    ((List.range (R * C)).any fun k => !(moved f b (R * C) ||| moved f a (R * C)).testBit k && decide (F (putA u k (moved f b (R * C))) (putB u k (moved f a (R * C))) = u)) = ((List.range (R * C)).any fun k => !(a ||| b).testBit k && decide (G (putA t k a) (putB t k b) = t)) := by
  refine any_perm hf fun k hk => ?_
  rw [Nat.testBit_or, moved_at hf hk, moved_at hf hk, Bool.or_comm, ← Nat.testBit_or]
  cases e : (a ||| b).testBit k with
  | true => rfl
  | false => exact congrArg (fun x => !false && x) (decide_eq_decide.2 (h k hk e))

theorem winN_swapped {R C R' C' : Nat} {f : Nat → Nat} (hB : BoardOf R C) (hn : R' * C' = R * C) (hf : Perm f (R * C)) (h1 : ∀ S, S < 2 ^ (R * C) → joinsN R' C' 2 (moved f S (R * C)) = joinsN R C 1 S) (h2 : ∀ S, S < 2 ^ (R * C) → joinsN R' C' 1 (moved f S (R * C)) = joinsN R C 2 S) :
    ∀ (m a b t : Nat), frN (R * C) a b ≤ m → Pos R C a b → (t = 1 ∨ t = 2) → winN R' C' (moved f b (R * C)) (moved f a (R * C)) (3 - t) = 3 - winN R C a b t := by
  intro m
  induction m with
  | zero =>
    intro a b t hm hp ht
    rw [winN_eq, winN_eq, h1 a hp.1, h2 b hp.2.1]
    have hboth := hp.both hB
    cases e1 : joinsN R C 1 a with
    | true => rw [hboth e1]; simp only [Bool.false_eq_true, ↓reduceIte]
    | false =>
      cases e2 : joinsN R C 2 b with
      | true => simp only [Bool.false_eq_true, ↓reduceIte]
      | false =>
        obtain ⟨k, hk, hkf⟩ := hp.free hB e1 e2
        rw [fr_zero hm hk] at hkf; cases hkf
  | succ m ih =>
    intro a b t hm hp ht
    rw [winN_eq, winN_eq, h1 a hp.1, h2 b hp.2.1]
    have hboth := hp.both hB
    have : moveB R' C' (moved f b (R * C)) (moved f a (R * C)) (3 - t) = moveB R C a b t := by
      unfold moveB
      rw [hn]
      refine anyB_swap hf (F := fun x y => winN R' C' x y (3 - (3 - t))) (G := fun x y => winN R C x y (3 - t)) fun k hk e => ?_
      have h := fr_put (t := t) hk e
      have ht' : 3 - t = 1 ∨ 3 - t = 2 := by omega
      show winN R' C' _ _ (3 - (3 - t)) = 3 - t ↔ winN R C _ _ (3 - t) = t
      rw [putA_swap ht hk, putB_swap ht hk, ih _ _ _ (by omega) (hp.put hk e) ht']
      have := win_cases (R := R) (C := C) (a := putA t k a) (b := putB t k b) ht'
      omega
    rw [this]
    cases e1 : joinsN R C 1 a with
    | true => rw [hboth e1]; simp only [Bool.false_eq_true, ↓reduceIte]
    | false =>
      cases e2 : joinsN R C 2 b with
      | true => simp only [Bool.false_eq_true, ↓reduceIte]
      | false =>
        simp only [Bool.false_eq_true, ↓reduceIte]
        cases moveB R C a b t <;> simp only [Bool.false_eq_true, ↓reduceIte] <;> omega

end Go.Proofs.YtfgjbfaapbhppaaDoor

/- Rules to walk through a function's plain form with what is to hold in the end: binds, conditions, guards, comparisons, numbers, calls and loops. -/
namespace Go.Proofs.YtfgjbfaapbhppaaDoor
open Go Go.Ip G

/-- The result is there, and Q holds of it. -/
def W (x : Res) (Q : PV → PHeap → Prop) : Prop := ∃ v h', x = some (v, h') ∧ Q v h'

section
variable {α : Type} {Q Q' : PV → PHeap → Prop} {P : Program} {t : TypeId} {k : IntKind}

theorem W.ret {v : PV} {h : PHeap} (hq : Q v h) : W (some (v, h)) Q := ⟨v, h, rfl, hq⟩
theorem W.mono {x : Res} (hx : W x Q') (hf : ∀ v h, Q' v h → Q v h) : W x Q := by
  obtain ⟨v, h, e, q⟩ := hx; exact ⟨v, h, e, hf v h q⟩
theorem W.of {x : Res} {v : PV} {h : PHeap} (hx : x = some (v, h)) (hq : Q v h) : W x Q := ⟨v, h, hx, hq⟩
theorem wbd {x : Option α} {v : α} {f : α → Res} (hx : x = some v) (hf : W (f v) Q) : W (x.bind f) Q := by rw [hx]; exact hf
theorem wcall {x : Res} {f : PV × PHeap → Res} (hx : W x Q') (hf : ∀ v h, Q' v h → W (f (v, h)) Q) : W (x.bind f) Q := by
  obtain ⟨v, h, e, q⟩ := hx; rw [e]; exact hf v h q
theorem wT {x y : Res} (h : W x Q) : W (condP (.bool true) x y) Q := h
theorem wF {x y : Res} (h : W y Q) : W (condP (.bool false) x y) Q := h
theorem wif {b : Bool} {x y : Res} (h1 : b = true → W x Q) (h2 : b = false → W y Q) : W (condP (.bool b) x y) Q := by
  cases b
  · exact h2 rfl
  · exact h1 rfl
theorem wg1 {b u : Bool} {x y : Option α} {f : α → Res} (hb : b = u) (hx : W (x.bind f) Q) : W ((wantV (.bool b) u).bind fun v => (bif v then x else y).bind f) Q := by
  subst hb; simpa using hx
theorem wg0 {b u : Bool} {x y : Option α} {f : α → Res} (hb : b = !u) (hy : W (y.bind f) Q) : W ((wantV (.bool b) u).bind fun v => (bif v then x else y).bind f) Q := by
  subst hb; cases u <;> simpa using hy
theorem wgu {u : Bool} {x y : Option α} {f : α → Res} (hy : W (y.bind f) Q) : W ((wantV (.tup []) u).bind fun v => (bif v then x else y).bind f) Q := by simpa using hy
theorem wpT {u v : PV} {f : PV → Res} (h : W (f u) Q) : W ((pickP (.bool true) u v).bind f) Q := h
theorem wpF {u v : PV} {f : PV → Res} (h : W (f v) Q) : W ((pickP (.bool false) u v).bind f) Q := h
theorem wnT {f : PV → Res} (h : W (f (.bool false)) Q) : W ((unP .not (.bool true)).bind f) Q := h
theorem wnF {f : PV → Res} (h : W (f (.bool true)) Q) : W ((unP .not (.bool false)).bind f) Q := h
theorem wn {b : Bool} {f : PV → Res} (h : W (f (.bool !b)) Q) : W ((unP .not (.bool b)).bind f) Q := h
theorem wpv {x : Option PV} {h : PHeap} {f : PV × PHeap → Res} (hx : W (x.bind fun v => f (v, h)) Q) : W ((pv h x).bind f) Q := by
  cases x <;> exact hx
theorem wsm {v : α} {f : α → Res} (h : W (f v) Q) : W ((some v).bind f) Q := h
theorem wrI {a : Int} {f : PV → Res} (h : W (f (.int k a)) Q) : W ((resV (.int k a)).bind f) Q := h
theorem wrB {a : Bool} {f : PV → Res} (h : W (f (.bool a)) Q) : W ((resV (.bool a)).bind f) Q := h
theorem wrN {f : PV → Res} (h : W (f .nilsl) Q) : W ((resV .nilsl).bind f) Q := h
theorem wrP {i o : Nat} {f : PV → Res} (h : W (f (.ptr i o)) Q) : W ((resV (.ptr i o)).bind f) Q := h
theorem wrS {i o l : Nat} {f : PV → Res} (h : W (f (.sl i o l)) Q) : W ((resV (.sl i o l)).bind f) Q := h
theorem wx0 {a : PV} {l : List PV} {f : PV → Res} (h : W (f a) Q) : W ((extractP (.tup (a :: l)) 0).bind f) Q := h
theorem wx1 {a b : PV} {l : List PV} {f : PV → Res} (h : W (f b) Q) : W ((extractP (.tup (a :: b :: l)) 1).bind f) Q := h
theorem wx2 {a b c : PV} {l : List PV} {f : PV → Res} (h : W (f c) Q) : W ((extractP (.tup (a :: b :: c :: l)) 2).bind f) Q := h
theorem wx3 {a b c d : PV} {l : List PV} {f : PV → Res} (h : W (f d) Q) : W ((extractP (.tup (a :: b :: c :: d :: l)) 3).bind f) Q := h
theorem wx4 {a b c d e : PV} {l : List PV} {f : PV → Res} (h : W (f e) Q) : W ((extractP (.tup (a :: b :: c :: d :: e :: l)) 4).bind f) Q := h
theorem wck {b : Bool} {x : Res} (hb : b = true) (h : W x Q) : W (ckP b x) Q := by rw [hb]; exact h
theorem wptr {i o : Nat} {f : PV → Res} (h : W (f (.ptr i o)) Q) : W ((ptrP (.ptr i o)).bind f) Q := h

/-! ### comparisons -/
section
variable {a b : Int} {f : PV → Res}
theorem wlssT (h : a < b) (hf : W (f (.bool true)) Q) : W ((binP P .lss t (.int k a) (.int k b)).bind f) Q := wbd (by rw [bin_lss, decide_eq_true h]) hf
theorem wlssF (h : ¬ a < b) (hf : W (f (.bool false)) Q) : W ((binP P .lss t (.int k a) (.int k b)).bind f) Q := wbd (by rw [bin_lss, decide_eq_false h]) hf
theorem wleqT (h : a ≤ b) (hf : W (f (.bool true)) Q) : W ((binP P .leq t (.int k a) (.int k b)).bind f) Q := wbd (by rw [bin_leq, decide_eq_true h]) hf
theorem wleqF (h : ¬ a ≤ b) (hf : W (f (.bool false)) Q) : W ((binP P .leq t (.int k a) (.int k b)).bind f) Q := wbd (by rw [bin_leq, decide_eq_false h]) hf
theorem wgtrT (h : b < a) (hf : W (f (.bool true)) Q) : W ((binP P .gtr t (.int k a) (.int k b)).bind f) Q := wbd (by rw [bin_gtr, decide_eq_true h]) hf
theorem wgtrF (h : ¬ b < a) (hf : W (f (.bool false)) Q) : W ((binP P .gtr t (.int k a) (.int k b)).bind f) Q := wbd (by rw [bin_gtr, decide_eq_false h]) hf
theorem wgeqT (h : b ≤ a) (hf : W (f (.bool true)) Q) : W ((binP P .geq t (.int k a) (.int k b)).bind f) Q := wbd (by rw [bin_geq, decide_eq_true h]) hf
theorem wgeqF (h : ¬ b ≤ a) (hf : W (f (.bool false)) Q) : W ((binP P .geq t (.int k a) (.int k b)).bind f) Q := wbd (by rw [bin_geq, decide_eq_false h]) hf
theorem weqlT (h : a = b) (hf : W (f (.bool true)) Q) : W ((binP P .eql t (.int k a) (.int k b)).bind f) Q := wbd (by rw [bin_eql, beq_iff_eq.2 h]) hf
theorem weqlF (h : ¬ a = b) (hf : W (f (.bool false)) Q) : W ((binP P .eql t (.int k a) (.int k b)).bind f) Q := wbd (by rw [bin_eql, beq_eq_false_iff_ne.2 h]) hf
theorem wneqT (h : ¬ a = b) (hf : W (f (.bool true)) Q) : W ((binP P .neq t (.int k a) (.int k b)).bind f) Q := wbd (by rw [bin_neq, bne, beq_eq_false_iff_ne.2 h]; rfl) hf
theorem wneqF (h : a = b) (hf : W (f (.bool false)) Q) : W ((binP P .neq t (.int k a) (.int k b)).bind f) Q := wbd (by rw [bin_neq, bne, beq_iff_eq.2 h]; rfl) hf
theorem wlss (h1 : a < b → W (f (.bool true)) Q) (h2 : ¬ a < b → W (f (.bool false)) Q) : W ((binP P .lss t (.int k a) (.int k b)).bind f) Q := by
  by_cases e : a < b
  · exact wlssT e (h1 e)
  · exact wlssF e (h2 e)
theorem wleq (h1 : a ≤ b → W (f (.bool true)) Q) (h2 : ¬ a ≤ b → W (f (.bool false)) Q) : W ((binP P .leq t (.int k a) (.int k b)).bind f) Q := by
  by_cases e : a ≤ b
  · exact wleqT e (h1 e)
  · exact wleqF e (h2 e)
theorem wgtr (h1 : b < a → W (f (.bool true)) Q) (h2 : ¬ b < a → W (f (.bool false)) Q) : W ((binP P .gtr t (.int k a) (.int k b)).bind f) Q := by
  by_cases e : b < a
  · exact wgtrT e (h1 e)
  · exact wgtrF e (h2 e)
theorem wgeq (h1 : b ≤ a → W (f (.bool true)) Q) (h2 : ¬ b ≤ a → W (f (.bool false)) Q) : W ((binP P .geq t (.int k a) (.int k b)).bind f) Q := by
  by_cases e : b ≤ a
  · exact wgeqT e (h1 e)
  · exact wgeqF e (h2 e)
theorem weql (h1 : a = b → W (f (.bool true)) Q) (h2 : ¬ a = b → W (f (.bool false)) Q) : W ((binP P .eql t (.int k a) (.int k b)).bind f) Q := by
  by_cases e : a = b
  · exact weqlT e (h1 e)
  · exact weqlF e (h2 e)
theorem wneq (h1 : ¬ a = b → W (f (.bool true)) Q) (h2 : a = b → W (f (.bool false)) Q) : W ((binP P .neq t (.int k a) (.int k b)).bind f) Q := by
  by_cases e : a = b
  · exact wneqF e (h2 e)
  · exact wneqT e (h1 e)
end

/-! ### numbers -/
section
variable {a b : Int} {x y : Nat} {f : PV → Res}
theorem wadd (h : -4611686018427387904 ≤ a + b ∧ a + b ≤ 4611686018427387904) (hf : W (f (.int .i64 (a + b))) Q) : W ((binP P .add t (.int .i64 a) (.int .i64 b)).bind f) Q := wbd (by rw [bin_add, wr (by omega)]) hf
theorem wsub (h : -4611686018427387904 ≤ a - b ∧ a - b ≤ 4611686018427387904) (hf : W (f (.int .i64 (a - b))) Q) : W ((binP P .sub t (.int .i64 a) (.int .i64 b)).bind f) Q := wbd (by rw [bin_sub, wr (by omega)]) hf
theorem wmul (h : -4611686018427387904 ≤ a * b ∧ a * b ≤ 4611686018427387904) (hf : W (f (.int .i64 (a * b))) Q) : W ((binP P .mul t (.int .i64 a) (.int .i64 b)).bind f) Q := wbd (by rw [bin_mul, wr (by omega)]) hf
theorem wadd1 (h : x < 4611686018427387904) (hf : W (f (.int .i64 ((x + 1 : Nat) : Int))) Q) : W ((binP P .add t (.int .i64 (x : Int)) (.int .i64 1)).bind f) Q := wbd (by rw [bin_add, wr (by omega)]; rfl) hf
theorem waddN (h : x + y < 4611686018427387904) (hf : W (f (.int .i64 ((x + y : Nat) : Int))) Q) : W ((binP P .add t (.int .i64 (x : Int)) (.int .i64 (y : Int))).bind f) Q := wbd (by rw [bin_add, wr (by omega)]; rfl) hf
theorem wsub1 (h : 1 ≤ x) (h2 : x < 4611686018427387904) (hf : W (f (.int .i64 ((x - 1 : Nat) : Int))) Q) : W ((binP P .sub t (.int .i64 (x : Int)) (.int .i64 1)).bind f) Q := wbd (by rw [bin_sub, wr (by omega), show (x : Int) - 1 = ((x - 1 : Nat) : Int) by omega]) hf
theorem wmulN (h : x * y < 4611686018427387904) (hf : W (f (.int .i64 ((x * y : Nat) : Int))) Q) : W ((binP P .mul t (.int .i64 (x : Int)) (.int .i64 (y : Int))).bind f) Q := wbd (by rw [bin_mul, ← Int.natCast_mul, wr (by omega)]) hf
end
end

section
variable {Q : PV → PHeap → Prop} {x y : Nat} {f : PV → Res}
theorem wquoN (h : 1 ≤ y) (h2 : x < 4611686018427387904) (hf : W (f (.int .i64 ((x / y : Nat) : Int))) Q) : W ((binP Tryd.prog .quo 3 (.int .i64 (x : Int)) (.int .i64 (y : Int))).bind f) Q :=
  wbd (by rw [bin_quo (by omega), ← Int.ofNat_tdiv, wr (by have := Nat.div_le_self x y; generalize x / y = z at this ⊢; omega)]) hf
theorem wremN (h : 1 ≤ y) (hf : W (f (.int .i64 ((x % y : Nat) : Int))) Q) : W ((binP Tryd.prog .rem 3 (.int .i64 (x : Int)) (.int .i64 (y : Int))).bind f) Q := wbd (f_rem x y h) hf
theorem wrem2 (hf : W (f (.int .i64 ((x % 2 : Nat) : Int))) Q) : W ((binP Tryd.prog .rem 3 (.int .i64 (x : Int)) (.int .i64 2)).bind f) Q := wbd (f_rem x 2 (by decide)) hf
theorem wshl (h : y ≤ 30) (hf : W (f (.int .i64 ((1 <<< y : Nat) : Int))) Q) : W ((binP Tryd.prog .shl 3 (.int .i64 1) (.int .i64 (y : Int))).bind f) Q := wbd (f_shl y h) hf
theorem wshr (h : y ≤ 60) (hf : W (f (.int .i64 ((x >>> y : Nat) : Int))) Q) : W ((binP Tryd.prog .shr 3 (.int .i64 (x : Int)) (.int .i64 (y : Int))).bind f) Q := wbd (f_shr x y h) hf
theorem wand (hx : x < 2 ^ 62) (hy : y < 2 ^ 62) (hf : W (f (.int .i64 ((x &&& y : Nat) : Int))) Q) : W ((binP Tryd.prog .and 3 (.int .i64 (x : Int)) (.int .i64 (y : Int))).bind f) Q := wbd (f_and hx hy) hf
theorem wor (hx : x < 2 ^ 62) (hy : y < 2 ^ 62) (hf : W (f (.int .i64 ((x ||| y : Nat) : Int))) Q) : W ((binP Tryd.prog .or 3 (.int .i64 (x : Int)) (.int .i64 (y : Int))).bind f) Q := wbd (f_or hx hy) hf

/-- What is in x, and not in y. -/
def minusN (x y : Nat) : Nat := x ^^^ (x &&& y)
theorem minusN_bit (x y j : Nat) : (minusN x y).testBit j = (x.testBit j && !y.testBit j) := by
  unfold minusN; rw [Nat.testBit_xor, Nat.testBit_and]; cases x.testBit j <;> cases y.testBit j <;> rfl
theorem minusN_lt {x y n : Nat} (hx : x < 2 ^ n) : minusN x y < 2 ^ n := Nat.lt_of_le_of_lt (sub_le fun j hj => by rw [minusN_bit, Bool.and_eq_true] at hj; exact hj.1) hx
theorem minusN_one (x k : Nat) : minusN x (1 <<< k) = without x k := rfl

theorem f_andNot (hx : x < 2 ^ 62) (hy : y < 2 ^ 62) : binP Tryd.prog .andNot 3 (.int .i64 (x : Int)) (.int .i64 (y : Int)) = some (.int .i64 ((minusN x y : Nat) : Int)) := by
  have e1 : BitVec.ofInt 64 (x : Int) = BitVec.ofNat 64 x := by rw [BitVec.ofInt_natCast]
  have e2 : BitVec.ofInt 64 (y : Int) = BitVec.ofNat 64 y := by rw [BitVec.ofInt_natCast]
  have e3 : (BitVec.ofNat 64 x &&& ~~~(BitVec.ofNat 64 y)).toNat = minusN x y := by
    apply Nat.eq_of_testBit_eq
    intro j
    rw [minusN_bit, ← BitVec.getLsbD, BitVec.getLsbD_and, BitVec.getLsbD_not, BitVec.getLsbD_ofNat, BitVec.getLsbD_ofNat]
    by_cases hj : j < 64
    · simp [hj]
    · have : x.testBit j = false := Nat.testBit_lt_two_pow (Nat.lt_of_lt_of_le hx (Nat.pow_le_pow_right (by decide) (by omega)))
      simp [hj, this]
  show binI .andNot .i64 (x : Int) (y : Int) = _
  have hl : minusN x y < 2 ^ 62 := minusN_lt hx
  show some (PV.int .i64 (IntKind.i64.wrap ((BitVec.ofInt 64 (x : Int) &&& ~~~(BitVec.ofInt 64 (y : Int))).toNat))) = _
  rw [e1, e2, e3, wr (by omega)]
theorem wandNot (hx : x < 2 ^ 62) (hy : y < 2 ^ 62) (hf : W (f (.int .i64 ((minusN x y : Nat) : Int))) Q) : W ((binP Tryd.prog .andNot 3 (.int .i64 (x : Int)) (.int .i64 (y : Int))).bind f) Q := wbd (f_andNot hx hy) hf

/-! ### slices of integers -/
variable {h : PHeap} {p : PV} {xs : List Int}
theorem wlen (s : IntSl .i64 h p xs) (hf : W (f (.int .i64 (xs.length : Int))) Q) : W ((lenP Tryd.prog 23 p).bind f) Q := wbd s.len' hf
/-- An element is read. -/
theorem wat (s : IntSl .i64 h p xs) {i : Nat} (hi : i < xs.length) (hf : ∀ a, loadP Tryd.prog 3 a h = some (.int .i64 xs[i]) → W (f a) Q) : W ((indexAddrP Tryd.prog 23 p (.int .i64 (i : Int))).bind f) Q := by
  obtain ⟨a, e, l⟩ := s.at' hi; exact wbd e (hf a l)
theorem wresO {n : Nat} (s : OwnSl n h p xs) (hf : W (f p) Q) : W ((resV p).bind f) Q := wbd s.res hf
/-- An element is written. -/
theorem wst {n i : Nat} (s : OwnSl n h p xs) (hi : i < xs.length) {x : Int} {F : PV → PHeap → Res}
    (hf : ∀ h', OwnSl n h' p (xs.set i x) → Keep n h h' → h'.length = h.length → ∀ a, storeP Tryd.prog 3 a (.int .i64 x) h = some h' → W (F a h') Q) :
    W ((indexAddrP Tryd.prog 23 p (.int .i64 (i : Int))).bind fun a => (storeP Tryd.prog 3 a (.int .i64 x) h).bind fun h' => F a h') Q := by
  obtain ⟨a, h', e1, e2, o, k, l⟩ := s.store hi x
  refine wbd e1 ?_
  show W ((storeP Tryd.prog 3 a (.int .i64 x) h).bind fun h' => F a h') Q
  exact wbd e2 (hf h' o k l a e2)
/-- One element is appended. -/
theorem wap {n : Nat} (s : OwnSl n h p xs) (hn : n ≤ h.length) {x : Int} (hl : xs.length + 1 ≤ 2 ^ 36) {F : PV × PHeap → Res}
    (hf : ∀ p' h', OwnSl n h' p' (xs ++ [x]) → Keep n h h' → W (F (p', h')) Q) :
    W ((buildSliceP Tryd.prog 23 1 [(0, .int .i64 x)] h).bind fun v => (appendP Tryd.prog 23 23 p v.1 v.2).bind F) Q := by
  obtain ⟨v, p', h', e1, e2, o, k⟩ := s.append hn x hl
  exact wbd e1 (wbd e2 (hf p' h' o k))
/-- A slice is made. -/
theorem wmake {m : Nat} (hm : m ≤ 2 ^ 36) {F : PV × PHeap → Res} (hf : ∀ p h', OwnSl h.length h' p (List.replicate m 0) → Keep h.length h h' → W (F (p, h')) Q) :
    W ((makeP Tryd.prog 23 (.int .i64 (m : Int)) (.int .i64 (m : Int)) h).bind F) Q := by
  obtain ⟨p, h', e, o, k⟩ := made (h := h) hm; exact wbd e (hf p h' o k)
theorem wempty {F : PV × PHeap → Res} (hf : ∀ p h', OwnSl h.length h' p [] → Keep h.length h h' → W (F (p, h')) Q) : W ((buildSliceP Tryd.prog 23 0 [] h).bind F) Q := by
  obtain ⟨p, h', e, o, k⟩ := empty_lit (h := h); exact wbd e (hf p h' o k)
end

/-! ### loops -/
theorem loopW {f : St → (PX → St → Res) → Res} {k : PX → St → Res} {Q : PV → PHeap → Prop} (I : Nat → St → Prop)
    (step : ∀ n m s, I m s → (∀ m' s', m' < m → I m' s' → W (kLoop f n k .normal s') Q) → W (f s (kLoop f n k)) Q) : ∀ (fuel m : Nat) (s : St), m < fuel → I m s → W (loopK f fuel s k) Q
  | 0, m, s, hm, _ => by omega
  | n + 1, m, s, hm, hI => by
    rw [loopK_succ]
    exact step n m s hI fun m' s' hm' hI' => by rw [kLoop_normal]; exact loopW I step n m' s' (by omega) hI'

/-- A list that whatever changes behind mark b leaves as it is. -/
def Fix (b : Nat) (h : PHeap) (p : PV) (xs : List Int) : Prop := ∀ h', Keep b h h' → IntSl .i64 h' p xs
theorem Fix.now {b : Nat} {h : PHeap} {p : PV} {xs : List Int} (s : Fix b h p xs) : IntSl .i64 h p xs := s h (Keep.refl _ _)
theorem Fix.keep {b : Nat} {h h' : PHeap} {p : PV} {xs : List Int} (s : Fix b h p xs) (k : Keep b h h') : Fix b h' p xs := fun h2 k2 => s h2 (k.trans k2)
theorem IntSl.fix {h : PHeap} {p : PV} {xs : List Int} (s : IntSl .i64 h p xs) : Fix h.length h p xs := fun _ k => s.keep k
theorem Fix.mono {b b' : Nat} {h : PHeap} {p : PV} {xs : List Int} (s : Fix b h p xs) (hb : b ≤ b') : Fix b' h p xs := fun h2 k2 => s h2 (k2.mono hb)

end Go.Proofs.YtfgjbfaapbhppaaDoor

/- The laws of chapter 2 over what the program's functions are asked to compute: the draws, the exact laws, and promise 9. -/
namespace Go.Proofs.YtfgjbfaapbhppaaDoor
open Go Go.Ip G

/-- What the program's functions may read besides: the table of steps, where there is one. -/
def TabOk (g : Nat → PV) (h : PHeap) : Prop := Tab g h ∧ Tab64 g h
theorem TabOk.keep {g : Nat → PV} {h h' : PHeap} (t : TabOk g h) (k : Keep h.length h h') : TabOk g h' := ⟨Tab.keep t.1 k, Tab64.keep t.2 k⟩

/-- What is asked of the program's functions of chapter 2. -/
def JoinsOk (g : Nat → PV) (lf : Nat) : Prop := ∀ (N : Nat), 20 ≤ N → ∀ (r c pl : Int) {xs : List Int} {p : PV} {h : PHeap}, TabOk g h → IntSl .i64 h p xs → xs.length ≤ 2 ^ 35 → xs.length < lf →
  ∃ h', CL g lf N fn_impl_Joins [.int .i64 r, .int .i64 c, p, .int .i64 pl] h = some (.bool (joinsL r c xs pl), h') ∧ Keep h.length h h'
variable (g : Nat → PV) (lf n : Nat)

/-! ### the exact laws -/
/-- Of two functions that make one list of a position both sides of an exact law come out the same: what the law looks at, in its order. -/
theorem exact_chain2 {xs L : List Int} {p : PV} {h : PHeap} (N : Nat) (hN : 1 ≤ N) (fS fI : PV → PHeap → Res)
    (hS : ∀ q hh, Keep h.length h hh → IntSl .i64 hh q xs → ∃ w h', fS q hh = some (w, h') ∧ OwnSl hh.length h' w L ∧ Keep hh.length hh h')
    (hI : ∀ q hh, Keep h.length h hh → IntSl .i64 hh q xs → ∃ w h', fI q hh = some (w, h') ∧ OwnSl hh.length h' w L ∧ Keep hh.length hh h')
    (hp : IntSl .i64 h p xs) (hl : xs.length ≤ 1048576) (hL : L.length ≤ 1048576) (hf : 1048576 < lf) :
    ∃ q1 h1 w h2 q3 h3 g0 h4 y h5 h6 h7 q8 h8 g1 h9, CL g lf N fn_laws_toIntS [p] h = some (q1, h1) ∧ fS q1 h1 = some (w, h2) ∧ CL g lf N fn_laws_toIntS [p] h2 = some (q3, h3) ∧ fI q3 h3 = some (g0, h4) ∧
      CL g lf N fn_laws_eqIntS [g0, w] h4 = some (.bool true, h4) ∧ CL g lf N fn_laws_toIntS [p] h4 = some (y, h5) ∧ CL g lf N fn_laws_eqIntS [q3, y] h5 = some (.bool true, h5) ∧
      CL g lf N fn_laws_markIntS [q3, .int .i64 1] h5 = some (.int .i64 (1 + xs.length), h6) ∧ CL g lf N fn_laws_eqIntS [g0, w] h6 = some (.bool true, h6) ∧
      CL g lf N fn_laws_markIntS [g0, .int .i64 1] h6 = some (.int .i64 (1 + L.length), h7) ∧ CL g lf N fn_laws_heldIntS [g0, .int .i64 1] h7 = some (.int .i64 (1 + L.length), h7) ∧
      CL g lf N fn_laws_toIntS [p] h7 = some (q8, h8) ∧ fI q8 h8 = some (g1, h9) ∧ CL g lf N fn_laws_eqIntS [g1, w] h9 = some (.bool true, h9) ∧ CL g lf N fn_laws_heldIntS [g0, .int .i64 1] h9 = some (.int .i64 (1 + L.length), h9) := by
  obtain ⟨n, rfl⟩ : ∃ n, N = n + 1 := ⟨N - 1, by omega⟩
  obtain ⟨q1, h1, e1, o1, k1⟩ := toIntS_calls g lf (n + 1) (by omega) hp (by omega) (by omega)
  obtain ⟨w, h2, e2, ow, k2⟩ := hS q1 h1 k1 o1.int
  have K2 : Keep h.length h h2 := k1.trans (k2.mono k1.1)
  obtain ⟨q3, h3, e3, o3, k3⟩ := toIntS_calls g lf (n + 1) (by omega) (hp.keep K2) (by omega) (by omega)
  have K3 : Keep h.length h h3 := K2.trans (k3.mono K2.1)
  obtain ⟨g0, h4, e4, og, k4⟩ := hI q3 h3 K3 o3.int
  have K4 : Keep h.length h h4 := K3.trans (k4.mono K3.1)
  obtain ⟨y, h5, e5, oy, k5⟩ := toIntS_calls g lf (n + 1) (by omega) (hp.keep K4) (by omega) (by omega)
  have K5 : Keep h.length h h5 := K4.trans (k5.mono K4.1)
  have w2 := ow.b
  have w3 := w2.keep k3
  have w4 := w3.keep (k4.mono k3.1)
  have w5 := w4.keep (k5.mono (Nat.le_trans k3.1 k4.1))
  have x3 := o3.b
  have x4 := x3.keep k4
  have x5 := x4.keep (k5.mono k4.1)
  have g4 := og.b
  have g5 := g4.keep k5
  have s4 := eqIntS_calls g lf n og.int w4.int (by omega) (by omega)
  have s5 := eqIntS_calls g lf n x5.int oy.int (by omega) (by omega)
  obtain ⟨h6, e6, x6, t6⟩ := markIntS_calls g lf (n + 1) (by omega) x5 (by omega) (by omega)
  have K6 : Keep h.length h h6 := K5.trans (t6.keep.mono (K2.1))
  have w6 := w5.only t6 (.inl (Nat.le_refl _))
  have g6 := g5.only t6 (.inr (Nat.le_refl _))
  have s6 := eqIntS_calls g lf n g6.int w6.int (by omega) (by omega)
  obtain ⟨h7, e7, g7, t7⟩ := markIntS_calls g lf (n + 1) (by omega) g6 (by omega) (by omega)
  have K7 : Keep h.length h h7 := K6.trans (t7.keep.mono (K3.1))
  have w7 := w6.only t7 (.inl k3.1)
  have s7 := heldIntS_calls g lf (n + 1) (by omega) g7.int (by omega) (by omega)
  obtain ⟨q8, h8, e8, o8, k8⟩ := toIntS_calls g lf (n + 1) (by omega) (hp.keep K7) (by omega) (by omega)
  obtain ⟨g1, h9, e9, o9, k9⟩ := hI q8 h8 (K7.trans (k8.mono K7.1)) o8.int
  have len7 : h4.length ≤ h7.length := by rw [t7.1, t6.1]; exact k5.1
  have len2 : h2.length ≤ h7.length := Nat.le_trans (Nat.le_trans k3.1 k4.1) len7
  have w8 := w7.keep (k8.mono len2)
  have w9 := w8.keep (k9.mono (Nat.le_trans len2 k8.1))
  have g8 := g7.keep (k8.mono len7)
  have g9 := g8.keep (k9.mono (Nat.le_trans len7 k8.1))
  have s9 := eqIntS_calls g lf n o9.int w9.int (by omega) (by omega)
  have s10 := heldIntS_calls g lf (n + 1) (by omega) g9.int (by omega) (by omega)
  simp only [decide_true] at s4 s5 s6 s9
  exact ⟨q1, h1, w, h2, q3, h3, g0, h4, y, h5, h6, h7, q8, h8, g1, h9, e1, e2, e3, e4, s4, e5, s5, e6, s6, e7, s7, e8, e9, s9, s10⟩


theorem groupL_length (r c : Int) (xs : List Int) (k : Int) : (groupL r c xs k).length ≤ 9 := by
  unfold groupL; split
  · exact listN_length _
  · simp
theorem filledL_length (r c : Int) (xs : List Int) (p : Int) : (filledL r c xs p).length ≤ xs.length := by
  unfold filledL; split <;> simp
theorem gapCellsL_length (r c : Int) (xs : List Int) (p : Int) : (gapCellsL r c xs p).length ≤ xs.length := by
  unfold gapCellsL; split
  · rw [List.length_map]
    refine Nat.le_trans (List.length_filter_le _ _) ?_
    rw [List.length_range]; exact Nat.le_refl _
  · simp

/-! ### the draws -/
theorem sided_calls {h : PHeap} {id m : Nat} (N : Nat) (hN : 5 ≤ N) (k : Int) (hr : Rd h id m) (hm : m ≤ 700000) (hk : k ≤ 400000) (hk0 : 1 ≤ k) (hlf : 20 < lf) :
    ∃ (r c : Int) (q : PV) (xs : List Int) (pl : Int) (h' : PHeap), CL g lf N fn_spec_l20Sided [.ptr id 0, .int .i64 k] h = some (.tup [.int .i64 r, .int .i64 c, q, .int .i64 pl], h') ∧ Keep id h h' ∧ OwnSl (id + 1) h' q xs ∧ xs.length ≤ 10 ∧ 1 ≤ pl ∧ pl ≤ 4 := by
  obtain ⟨n, rfl⟩ : ∃ n, N = n + 1 := ⟨N - 1, by omega⟩
  rw [spec_l20Sided.call_eq]
  obtain ⟨r, c, q, xs, h1, e1, r1, k1, o1, hl, hrc⟩ := position_calls g lf n (by omega) k hr (by omega) hk hk0 hlf
  obtain ⟨v1, h2, e2, r2, o2, a1, a2, _⟩ := pick_calls g lf n (by omega) 2 r1 (by omega) (by omega)
  obtain ⟨v2, h3, e3, r3, o3, b1, b2, _⟩ := pick_calls g lf n (by omega) 60 r2 (by omega) (by omega)
  have a2' := a2 (by omega)
  have b2' := b2 (by omega)
  have hq := tdiv_range b1 (show (1 : Int) ≤ 59 by decide)
  have hq1 : v2.tdiv 59 ≤ 1 := by
    obtain ⟨V, rfl⟩ := Int.eq_ofNat_of_zero_le b1
    have : ((V : Int).tdiv 59) = ((V / 59 : Nat) : Int) := rfl
    rw [this]; omega
  have f1 : binP Tryd.prog .add 3 (.int .i64 1) (.int .i64 v1) = some (.int .i64 (1 + v1)) := by rw [bin_add, wr (by omega)]
  have f2 : binP Tryd.prog .quo 3 (.int .i64 v2) (.int .i64 59) = some (.int .i64 (v2.tdiv 59)) := by rw [bin_quo (by decide), wr (by omega)]
  have f3 : binP Tryd.prog .mul 3 (.int .i64 (v2.tdiv 59)) (.int .i64 2) = some (.int .i64 (v2.tdiv 59 * 2)) := by rw [bin_mul, wr (by omega)]
  have f4 : binP Tryd.prog .add 3 (.int .i64 (1 + v1)) (.int .i64 (v2.tdiv 59 * 2)) = some (.int .i64 (1 + v1 + v2.tdiv 59 * 2)) := by rw [bin_add, wr (by omega)]
  have ho := (o1.keepOnly o2 (by omega)).keepOnly o3 (by omega)
  refine ⟨r, c, q, xs, 1 + v1 + v2.tdiv 59 * 2, h3, ?_, (k1.trans o2.keep).trans o3.keep, ho, hl, by omega, by omega⟩
  unfold spec_l20Sided.main
  exact bd e1 (bd extract_tup (bd extract_tup (bd extract_tup (bd e2 (bd f1 (bd e3 (bd f2 (bd f3 (bd f4 (bd res_int (bd res_int (bd o1.res (bd res_int rfl)))))))))))))

theorem halfTurned_N {xs : List Int} {p : PV} {h : PHeap} (N : Nat) (hN : 4 ≤ N) (r c : Int) (hp : IntSl .i64 h p xs) (hl : xs.length ≤ 2 ^ 35) (hf : xs.length < lf) :
    ∃ q h', CL g lf N fn_impl_HalfTurned [.int .i64 r, .int .i64 c, p] h = some (q, h') ∧ OwnSl h.length h' q (turnL r c xs) ∧ Keep h.length h h' := halfTurned_calls g lf N hN r c hp hl hf

/-- Behind a position that is none, or a player that is none. -/
theorem joinsL_none {r c : Int} {xs : List Int} {pl : Int} (h : posB r c xs = false ∨ 2 < pl) : joinsL r c xs pl = false := by
  unfold joinsL playerB
  rcases h with h | h
  · rw [h]; rfl
  · rw [decide_eq_false (show ¬ (1 ≤ pl ∧ pl ≤ 2) by omega), Bool.and_false, Bool.false_and]
theorem gapL_none {r c : Int} {xs : List Int} {pl : Int} (h : posB r c xs = false ∨ 2 < pl) : gapL r c xs pl = -1 := by
  unfold gapL playerB
  rcases h with h | h
  · rw [h]; rfl
  · rw [decide_eq_false (show ¬ (1 ≤ pl ∧ pl ≤ 2) by omega), Bool.and_false]; rfl

end Go.Proofs.YtfgjbfaapbhppaaDoor

/- Promises 11, 12, 13 and 14 over what the program's functions are asked to compute. -/
namespace Go.Proofs.YtfgjbfaapbhppaaDoor
open Go Go.Ip G

/-! ### more facts on positions -/
theorem range_count (w : Int) : ∀ (xs : List Int) (n : Nat), xs.length ≤ n → (List.range n).countP (fun j => decide (xs[j]? = some w)) = xs.count w
  | [], n, _ => by
    rw [List.count_nil, List.countP_eq_zero]
    intro j _; simp
  | x :: xs, n, h => by
    obtain ⟨m, rfl⟩ : ∃ m, n = m + 1 := ⟨n - 1, by simp at h; omega⟩
    rw [List.range_succ_eq_map, List.countP_cons, List.countP_map, List.count_cons]
    have ih := range_count w xs m (by simpa using h)
    have : ((fun j => decide ((x :: xs)[j]? = some w)) ∘ Nat.succ) = fun j => decide (xs[j]? = some w) := by
      funext j; simp
    rw [this, ih]
    congr 1
    by_cases e : x = w <;> simp [e]

theorem pop_count {xs : List Int} (h : xs.length ≤ 9) (w : Int) : pop (setL xs w) = xs.count w := by
  rw [← range_count w xs 9 h]
  unfold pop
  apply List.countP_congr
  intro j _
  rw [setL_bit, decide_eq_true_iff]

theorem gap_le_free {R C P : Nat} {r c : Int} {xs : List Int} (hs : Sides r c R C xs) : gapN (masksN R C) (setL xs (P : Int)) (setL xs 0) (sideN R C P false) (sideN R C P true) (R * C) ≤ (xs.count 0 : Int) := by
  have hl : xs.length ≤ 9 := by have := hs.2.2.2.2.2.2.2.1; have := hs.2.2.2.2.2.2.1; omega
  rcases gap_spec (P := P) hs with ⟨k, hk, hg⟩ | ⟨hk, _⟩
  · have := gap_pop (set_lt9 hs 0) hg
    rw [pop_count hl] at this
    rw [hk]; omega
  · rw [hk]; omega

theorem gap_joins {R C P : Nat} {xs : List Int} (hb : posB (R : Int) (C : Int) xs = true) (hs : Sides (R : Int) (C : Int) R C xs) (hP : P = 1 ∨ P = 2) : decide (gapL (R : Int) (C : Int) xs (P : Int) = 0) = joinsL (R : Int) (C : Int) xs (P : Int) := by
  rw [gapL_eq hb hP, joinsL_eq hb hP, Bool.eq_iff_iff, decide_eq_true_iff]
  exact gap_zero_iff hs
theorem gap_other {R C P : Nat} {xs : List Int} (hb : posB (R : Int) (C : Int) xs = true) (hs : Sides (R : Int) (C : Int) R C xs) (hP : P = 1 ∨ P = 2) : decide (gapL (R : Int) (C : Int) xs (P : Int) = -1) = joinsL (R : Int) (C : Int) xs ((3 - P : Nat) : Int) := by
  rw [gapL_eq hb hP, joinsL_eq hb (by omega), Bool.eq_iff_iff, decide_eq_true_iff]
  exact gap_none_iff hs hP
theorem gap_filled {R C P : Nat} {xs : List Int} (hb : posB (R : Int) (C : Int) xs = true) (hs : Sides (R : Int) (C : Int) R C xs) (hP : P = 1 ∨ P = 2) : joinsL (R : Int) (C : Int) (xs.map (fillL (P : Int))) (P : Int) = decide (0 ≤ gapL (R : Int) (C : Int) xs (P : Int)) := by
  rw [joinsL_eq (filled_pos hb hP) hP, (filled_set hs hP).1, other_joins hs hP, ← joinsL_eq hb (show 3 - P = 1 ∨ 3 - P = 2 by omega), ← gap_other hb hs hP]
  have := (gapL_small (R : Int) (C : Int) xs (P : Int)).1
  rw [Bool.eq_iff_iff, Bool.not_eq_true', decide_eq_false_iff_not, decide_eq_true_iff]
  omega

theorem pos_set {R C P : Nat} {xs : List Int} (hb : posB (R : Int) (C : Int) xs = true) (hP : P = 1 ∨ P = 2) (k : Nat) : posB (R : Int) (C : Int) (xs.set k (P : Int)) = true := by
  unfold posB at hb ⊢
  rw [List.length_set]
  rw [Bool.and_eq_true] at hb ⊢
  refine ⟨hb.1, ?_⟩
  rw [List.all_eq_true]
  intro x hx
  rcases List.mem_or_eq_of_mem_set hx with hx | rfl
  · exact List.all_eq_true.1 hb.2 x hx
  · rcases hP with rfl | rfl <;> rfl

/-- With a stone more on a free cell. -/
theorem gapL_stone {R C P : Nat} {xs : List Int} (hb : posB (R : Int) (C : Int) xs = true) (hs : Sides (R : Int) (C : Int) R C xs) (hP : P = 1 ∨ P = 2) {k : Nat} (hk : xs[k]? = some 0) (h0 : 0 ≤ gapL (R : Int) (C : Int) xs (P : Int)) :
    gapL (R : Int) (C : Int) (xs.set k (P : Int)) (P : Int) = gapL (R : Int) (C : Int) xs (P : Int) ∨ (1 ≤ gapL (R : Int) (C : Int) xs (P : Int) ∧ gapL (R : Int) (C : Int) (xs.set k (P : Int)) (P : Int) = gapL (R : Int) (C : Int) xs (P : Int) - 1) := by
  rw [gapL_eq (pos_set hb hP k) hP, gapL_eq hb hP]
  rw [gapL_eq hb hP] at h0
  rcases gap_spec (P := P) hs with ⟨G, hG, hg⟩ | ⟨hG, _⟩
  · rw [hG]
    rcases gap_stone hs hP hk hg with h | ⟨h1, h⟩
    · exact .inl h
    · exact .inr ⟨by omega, h⟩
  · omega

theorem free_first {r c : Int} {xs : List Int} (hb : posB r c xs = true) {i : Nat} (hi : i < (cellsL r c xs 0).length) : ∃ j : Nat, (cellsL r c xs 0)[i] = (j : Int) ∧ xs[j]? = some 0 := by
  obtain ⟨e, he⟩ : ∃ e, e = (cellsL r c xs 0)[i] := ⟨_, rfl⟩
  have hm : e ∈ cellsL r c xs 0 := by rw [he]; exact List.getElem_mem hi
  have hc : cellsL r c xs 0 = cellsFrom 0 0 xs := by unfold cellsL; rw [hb]; rfl
  rw [hc] at hm
  obtain ⟨j, h1, h2⟩ := cellsFrom_mem 0 xs 0 _ hm
  exact ⟨j, by rw [← he, h1, Nat.zero_add], h2⟩

variable (g : Nat → PV) (lf n : Nat)

/-! ### promise 12 -/
end Go.Proofs.YtfgjbfaapbhppaaDoor

/- Promises 13 and 14 over what the program's functions are asked to compute. -/
namespace Go.Proofs.YtfgjbfaapbhppaaDoor
open Go Go.Ip G

/-! ### the cells that close a gap -/
theorem gc_mem {r c p : Int} {xs : List Int} (h0 : 0 < gapL r c xs p) {k : Nat} (hk : xs[k]? = some 0) : (k : Int) ∈ gapCellsL r c xs p ↔ gapL r c (xs.set k p) p = gapL r c xs p - 1 := by
  have hkl : k < xs.length := (List.getElem?_eq_some_iff.1 hk).1
  have hgd : xs.getD k 0 = 0 := by rw [List.getD_eq_getElem?_getD, hk]; rfl
  unfold gapCellsL
  rw [if_pos h0, List.mem_map]
  constructor
  · rintro ⟨j, hj, e⟩
    obtain rfl : j = k := by omega
    rw [List.mem_filter, Bool.and_eq_true, decide_eq_true_iff, decide_eq_true_iff] at hj
    exact hj.2.2
  · intro h
    refine ⟨k, ?_, rfl⟩
    rw [List.mem_filter, Bool.and_eq_true, decide_eq_true_iff, decide_eq_true_iff, List.mem_range]
    exact ⟨hkl, hgd, h⟩

theorem gc_sorted (r c : Int) (xs : List Int) (p : Int) : ∀ i (hi : i + 1 < (gapCellsL r c xs p).length), (gapCellsL r c xs p)[i] < (gapCellsL r c xs p)[i + 1] := by
  have hs : (gapCellsL r c xs p).Pairwise (· < ·) := by
    unfold gapCellsL
    split
    · rw [List.pairwise_map]
      refine (List.Pairwise.filter _ List.pairwise_lt_range).imp ?_
      intro a b h; omega
    · exact List.Pairwise.nil
  intro i hi
  exact List.pairwise_iff_getElem.1 hs i (i + 1) (by omega) hi (by omega)

theorem gc_count {R C P : Nat} {xs : List Int} (hb : posB (R : Int) (C : Int) xs = true) (hs : Sides (R : Int) (C : Int) R C xs) (hP : P = 1 ∨ P = 2) (h0 : 0 < gapL (R : Int) (C : Int) xs (P : Int)) : gapL (R : Int) (C : Int) xs (P : Int) ≤ ((gapCellsL (R : Int) (C : Int) xs (P : Int)).length : Int) := by
  have h9 := hs.2.2.2.2.2.2.1
  have hlen := hs.2.2.2.2.2.2.2.1
  have hge := gapL_eq hb hP
  rcases gap_spec (P := P) hs with ⟨G, hG, hg⟩ | ⟨hG, _⟩
  · have hc := good_count h9 (set_lt9 hs _) (set_lt hs 0) hg
    have hl : (gapCellsL (R : Int) (C : Int) xs (P : Int)).length = (List.range (R * C)).countP (goodB (masksN R C) (setL xs (P : Int)) (setL xs 0) (sideN R C P false) (sideN R C P true) (R * C)) := by
      unfold gapCellsL
      rw [if_pos h0, List.length_map, ← List.countP_eq_length_filter, hlen]
      apply List.countP_congr
      intro k hk
      rw [List.mem_range] at hk
      have hkl : k < xs.length := by omega
      unfold goodB
      rw [Bool.and_eq_true, Bool.and_eq_true, decide_eq_true_iff, decide_eq_true_iff, decide_eq_true_iff, setL_bit]
      have hgd : xs.getD k 0 = 0 ↔ xs[k]? = some 0 := by
        rw [List.getD_eq_getElem?_getD, List.getElem?_eq_getElem hkl]; simp
      rw [hgd]
      refine and_congr_right fun hz => ?_
      obtain ⟨e1, e2, _⟩ := set_more hs hP hz
      rw [gapL_eq (pos_set hb hP k) hP, hge, e1, e2]
    rw [hge, hG, hl]
    omega
  · rw [hge, hG]; omega

variable (g : Nat → PV) (lf n : Nat)

/-! ### gaps of free boards, and mirrored -/
theorem free_all : (boards.all fun b => decide (gapL (b.1 : Int) (b.2 : Int) (List.replicate (b.1 * b.2) 0) 1 = (b.1 : Int)) && decide (gapL (b.1 : Int) (b.2 : Int) (List.replicate (b.1 * b.2) 0) 2 = (b.2 : Int))) = true := by kernel_rfl

def mirOkB (R C : Nat) : Bool :=
  ((List.range (R * C)).all fun k => (List.range (R * C)).all fun j => ((masksN R C).getD k 0).testBit j == ((masksN C R).getD (sig C R k) 0).testBit (sig C R j)) &&
  ((List.range (R * C)).all fun j => [1, 2].all fun P => [true, false].all fun last => (sideN R C P last).testBit j == (sideN C R (3 - P) last).testBit (sig C R j))
theorem mirOk_all : (boards.all fun b => mirOkB b.1 b.2) = true := by kernel_rfl

theorem cost_mirror {R C P : Nat} {r c : Int} {xs : List Int} (hs : Sides r c R C xs) (hP : P = 1 ∨ P = 2) {k j : Nat} (h : Cost (masksN R C) (sideN R C P false) (setL xs (P : Int)) (setL xs 0) k j) :
    Cost (masksN C R) (sideN C R (3 - P) false) (setL (mir R C xs) ((3 - P : Nat) : Int)) (setL (mir R C xs) 0) k (sig C R j) := by
  have hm := List.all_eq_true.1 mirOk_all (R, C) (board_mem (board_of_sides hs))
  unfold mirOkB at hm
  rw [Bool.and_eq_true] at hm
  have hadj : ∀ i j, i < R * C → j < R * C → Adj (masksN R C) i j → Adj (masksN C R) (sig C R i) (sig C R j) := fun i j hi hj ha => by
    have := List.all_eq_true.1 (List.all_eq_true.1 hm.1 i (by rw [List.mem_range]; exact hi)) j (by rw [List.mem_range]; exact hj)
    rw [beq_iff_eq] at this
    unfold Adj at ha ⊢
    rw [← this]; exact ha
  have hedge : ∀ j, j < R * C → (sideN R C P false).testBit j = true → (sideN C R (3 - P) false).testBit (sig C R j) = true := fun j hj he => by
    have := List.all_eq_true.1 hm.2 j (by rw [List.mem_range]; exact hj)
    have := List.all_eq_true.1 this P (by rcases hP with rfl | rfl <;> simp)
    have := List.all_eq_true.1 this false (by simp)
    rw [beq_iff_eq] at this
    rw [← this]; exact he
  have hown : ∀ j, (setL xs (P : Int)).testBit j = true → (setL (mir R C xs) ((3 - P : Nat) : Int)).testBit (sig C R j) = true := fun j hj => by
    rw [← swap_player hP, setL_mir hs, moved_bit]
    exact ⟨j, set_in hs hj, hj, rfl⟩
  have hfree : ∀ j, (setL xs 0).testBit j = true → (setL (mir R C xs) 0).testBit (sig C R j) = true := fun j hj => by
    have e : setL (mir R C xs) 0 = moved (sig C R) (setL xs 0) (R * C) := setL_mir hs 0
    rw [e, moved_bit]
    exact ⟨j, set_in hs hj, hj, rfl⟩
  have hin : ∀ {k j}, Cost (masksN R C) (sideN R C P false) (setL xs (P : Int)) (setL xs 0) k j → j < R * C := fun h => by
    cases h with
    | ownEdge _ h => exact set_in hs h
    | freeEdge _ h => exact set_in hs h
    | ownStep _ _ h => exact set_in hs h
    | freeStep _ _ h => exact set_in hs h
  induction h with
  | ownEdge h ho => exact .ownEdge (hedge _ (set_in hs ho) h) (hown _ ho)
  | freeEdge h hf => exact .freeEdge (hedge _ (set_in hs hf) h) (hfree _ hf)
  | ownStep h ha ho ih => exact .ownStep ih (hadj _ _ (hin h) (set_in hs ho) ha) (hown _ ho)
  | freeStep h ha hf ih => exact .freeStep ih (hadj _ _ (hin h) (set_in hs hf) ha) (hfree _ hf)

theorem hits_mirror {R C P : Nat} {r c : Int} {xs : List Int} (hs : Sides r c R C xs) (hP : P = 1 ∨ P = 2) {k : Nat} (h : Hits (masksN R C) (setL xs (P : Int)) (setL xs 0) (sideN R C P false) (sideN R C P true) k) :
    Hits (masksN C R) (setL (mir R C xs) ((3 - P : Nat) : Int)) (setL (mir R C xs) 0) (sideN C R (3 - P) false) (sideN C R (3 - P) true) k := by
  obtain ⟨j, hj, hc⟩ := h
  have hm := List.all_eq_true.1 mirOk_all (R, C) (board_mem (board_of_sides hs))
  unfold mirOkB at hm
  rw [Bool.and_eq_true] at hm
  have hjn : j < R * C := by
    cases hc with
    | ownEdge _ h => exact set_in hs h
    | freeEdge _ h => exact set_in hs h
    | ownStep _ _ h => exact set_in hs h
    | freeStep _ _ h => exact set_in hs h
  have := List.all_eq_true.1 hm.2 j (by rw [List.mem_range]; exact hjn)
  have := List.all_eq_true.1 this P (by rcases hP with rfl | rfl <;> simp)
  have := List.all_eq_true.1 this true (by simp)
  rw [beq_iff_eq] at this
  exact ⟨sig C R j, by rw [← this]; exact hj, cost_mirror hs hP hc⟩

theorem sides_mir {R C : Nat} {xs : List Int} (hb : posB (R : Int) (C : Int) xs = true) (hs : Sides (R : Int) (C : Int) R C xs) : Sides (C : Int) (R : Int) C R (mir R C xs) := by
  have hmb := posB_mir hs hb
  obtain ⟨R', C', hS'⟩ := sides_of hmb
  obtain ⟨a1, a2, rest⟩ := id hS'
  obtain rfl : R' = C := by omega
  obtain rfl : C' = R := by omega
  exact hS'

theorem gap_mirror {R C P : Nat} {xs : List Int} (hb : posB (R : Int) (C : Int) xs = true) (hs : Sides (R : Int) (C : Int) R C xs) (hP : P = 1 ∨ P = 2) : gapL (C : Int) (R : Int) (mir R C xs) ((3 - P : Nat) : Int) = gapL (R : Int) (C : Int) xs (P : Int) := by
  have hmb := posB_mir hs hb
  have hs' := sides_mir hb hs
  have hP' : 3 - P = 1 ∨ 3 - P = 2 := by omega
  have fwd : ∀ k, Hits (masksN R C) (setL xs (P : Int)) (setL xs 0) (sideN R C P false) (sideN R C P true) k → Hits (masksN C R) (setL (mir R C xs) ((3 - P : Nat) : Int)) (setL (mir R C xs) 0) (sideN C R (3 - P) false) (sideN C R (3 - P) true) k := fun k h => hits_mirror hs hP h
  have bwd : ∀ k, Hits (masksN C R) (setL (mir R C xs) ((3 - P : Nat) : Int)) (setL (mir R C xs) 0) (sideN C R (3 - P) false) (sideN C R (3 - P) true) k → Hits (masksN R C) (setL xs (P : Int)) (setL xs 0) (sideN R C P false) (sideN R C P true) k := fun k h => by
    have := hits_mirror hs' hP' h
    rw [mir_mir hs.2.2.1 hs.2.2.2.1 hs.2.2.2.2.1 hs.2.2.2.2.2.1 hs.2.2.2.2.2.2.1 hs.2.2.2.2.2.2.2.1, show 3 - (3 - P) = P by omega] at this
    exact this
  rw [gapL_eq hmb hP', gapL_eq hb hP]
  rcases gap_spec (P := P) hs with ⟨k, hk, hg⟩ | ⟨hk, hn⟩
  · rcases gap_spec (P := 3 - P) hs' with ⟨k', hk', hg'⟩ | ⟨_, hn'⟩
    · have : IsGap (masksN R C) (setL xs (P : Int)) (setL xs 0) (sideN R C P false) (sideN R C P true) k' := ⟨bwd _ hg'.1, fun i hi h => hg'.2 i hi (fwd i h)⟩
      rw [hk, hk', hg.unique this]
    · exact absurd (fwd _ hg.1) (hn' _)
  · rcases gap_spec (P := 3 - P) hs' with ⟨k', _, hg'⟩ | ⟨hk', _⟩
    · exact absurd (bwd _ hg'.1) (hn _)
    · rw [hk, hk']

end Go.Proofs.YtfgjbfaapbhppaaDoor

/- Promises 10 and 15 over what the program's functions are asked to compute. -/
namespace Go.Proofs.YtfgjbfaapbhppaaDoor
open Go Go.Ip G

/-! ### lists of sets -/
theorem listFrom_mem (S : Nat) (e : Int) : ∀ (m k : Nat), e ∈ listFrom S m k ↔ ∃ j : Nat, e = (j : Int) ∧ k ≤ j ∧ j < k + m ∧ S.testBit j = true
  | 0, k => by
    rw [listFrom]
    constructor
    · intro h; simp at h
    · rintro ⟨j, _, h1, h2, _⟩; omega
  | m + 1, k => by
    have ih := listFrom_mem S e m (k + 1)
    rw [listFrom]
    by_cases hb : S >>> k % 2 = 1
    · rw [if_pos hb, List.mem_cons, ih]
      constructor
      · rintro (h | ⟨j, h1, h2, h3, h4⟩)
        · exact ⟨k, h, Nat.le_refl _, by omega, (bit_iff S k).1 hb⟩
        · exact ⟨j, h1, by omega, by omega, h4⟩
      · rintro ⟨j, h1, h2, h3, h4⟩
        by_cases e2 : j = k
        · exact .inl (by rw [h1, e2])
        · exact .inr ⟨j, h1, by omega, by omega, h4⟩
    · rw [if_neg hb, ih]
      constructor
      · rintro ⟨j, h1, h2, h3, h4⟩
        exact ⟨j, h1, by omega, by omega, h4⟩
      · rintro ⟨j, h1, h2, h3, h4⟩
        by_cases e2 : j = k
        · subst e2; exact absurd ((bit_iff S j).2 h4) hb
        · exact ⟨j, h1, by omega, by omega, h4⟩

theorem listN_mem {S : Nat} (hS : S < 2 ^ 9) (e : Int) : e ∈ listN S ↔ ∃ j : Nat, e = (j : Int) ∧ S.testBit j = true := by
  unfold listN
  rw [listFrom_mem]
  constructor
  · rintro ⟨j, h1, _, _, h4⟩; exact ⟨j, h1, h4⟩
  · rintro ⟨j, h1, h4⟩; exact ⟨j, h1, Nat.zero_le _, by have := bit_small hS h4; omega, h4⟩

theorem listFrom_sorted (S : Nat) : ∀ (m k : Nat), (listFrom S m k).Pairwise (· < ·)
  | 0, _ => List.Pairwise.nil
  | m + 1, k => by
    have ih := listFrom_sorted S m (k + 1)
    rw [listFrom]
    split
    · refine List.pairwise_cons.2 ⟨fun e he => ?_, ih⟩
      obtain ⟨j, h1, h2, _, _⟩ := (listFrom_mem S e m (k + 1)).1 he
      omega
    · exact ih

theorem listN_sorted (S : Nat) : ∀ i (hi : i + 1 < (listN S).length), (listN S)[i] < (listN S)[i + 1] := fun i hi =>
  List.pairwise_iff_getElem.1 (listFrom_sorted S 9 0) i (i + 1) (by have : i + 1 < (listN S).length := hi; unfold listN at this; omega) hi (by omega)

/-! ### masks -/
def maskOkB (R C : Nat) : Bool :=
  (masksN R C).all (fun m => decide (m < 2 ^ (R * C))) && ((List.range (R * C)).all fun k => (List.range (R * C)).all fun j =>
    (((masksN R C).getD k 0).testBit j == ((masksN R C).getD j 0).testBit k) && (((masksN R C).getD k 0).testBit j == decide ((j : Int) ∈ nearN R C k)))
theorem maskOk_all : (boards.all fun b => maskOkB b.1 b.2) = true := by kernel_rfl

theorem adj_in {R C k j : Nat} (hB : BoardOf R C) (h : Adj (masksN R C) k j) : k < R * C ∧ j < R * C := by
  unfold Adj at h
  have hk : k < (masksN R C).length := by
    rcases Nat.lt_or_ge k (masksN R C).length with hlt | hge
    · exact hlt
    · rw [List.getD_eq_getElem?_getD, List.getElem?_eq_none hge] at h
      simp at h
  have hm := List.all_eq_true.1 maskOk_all (R, C) (board_mem hB)
  unfold maskOkB at hm
  rw [Bool.and_eq_true] at hm
  rw [List.getD_eq_getElem?_getD, List.getElem?_eq_getElem hk] at h
  have := List.all_eq_true.1 hm.1 _ (List.getElem_mem hk)
  have := of_decide_eq_true this
  exact ⟨by rw [masksN_length] at hk; exact hk, bit_small this h⟩

theorem adj_sym {R C : Nat} (hB : BoardOf R C) : ∀ k j, Adj (masksN R C) k j → Adj (masksN R C) j k := by
  intro k j h
  obtain ⟨hk, hj⟩ := adj_in hB h
  have hm := List.all_eq_true.1 maskOk_all (R, C) (board_mem hB)
  unfold maskOkB at hm
  rw [Bool.and_eq_true] at hm
  have := List.all_eq_true.1 (List.all_eq_true.1 hm.2 k (by rw [List.mem_range]; exact hk)) j (by rw [List.mem_range]; exact hj)
  rw [Bool.and_eq_true, beq_iff_eq, beq_iff_eq] at this
  unfold Adj at h ⊢
  rw [← this.1]; exact h

theorem adj_near {R C k j : Nat} (hB : BoardOf R C) (hk : k < R * C) (hj : j < R * C) (h : (j : Int) ∈ nearN R C k) : Adj (masksN R C) k j := by
  have hm := List.all_eq_true.1 maskOk_all (R, C) (board_mem hB)
  unfold maskOkB at hm
  rw [Bool.and_eq_true] at hm
  have := List.all_eq_true.1 (List.all_eq_true.1 hm.2 k (by rw [List.mem_range]; exact hk)) j (by rw [List.mem_range]; exact hj)
  rw [Bool.and_eq_true, beq_iff_eq, beq_iff_eq] at this
  unfold Adj
  rw [this.2, decide_eq_true_iff]; exact h

/-! ### groups -/
theorem reach_one {M : List Nat} {S k : Nat} (hk : S.testBit k = true) : Reach M S (1 <<< k) k := .start (by rw [one_bit]; simp) hk

theorem group_same {R C S k j : Nat} (hB : BoardOf R C) (hS : S < 2 ^ 9) (hk : S.testBit k = true) (h : Reach (masksN R C) S (1 <<< k) j) : growN (masksN R C) S (1 <<< j) = growN (masksN R C) S (1 <<< k) := by
  apply Nat.eq_of_testBit_eq
  intro i
  rw [Bool.eq_iff_iff, grow_bit hS, grow_bit hS]
  have one : ∀ {a : Nat} {x : Nat}, (1 <<< a).testBit x = true → x = a := fun {a x} hx => by rw [one_bit] at hx; exact of_decide_eq_true hx
  constructor
  · exact Reach.trans fun x hx => by rw [one hx]; exact h
  · exact Reach.trans fun x hx => by rw [one hx]; exact Reach.back (adj_sym hB) hk h

theorem groupL_stone {R C K : Nat} {xs : List Int} (hb : posB (R : Int) (C : Int) xs = true) {x : Int} (hx : xs[K]? = some x) (hz : x ≠ 0) : groupL (R : Int) (C : Int) xs (K : Int) = listN (growN (masksN R C) (setL xs x) (1 <<< K)) := by
  have hK : K < xs.length := (List.getElem?_eq_some_iff.1 hx).1
  have hgd : xs.getD K 0 = x := by rw [List.getD_eq_getElem?_getD, hx]; rfl
  unfold groupL stoneB
  rw [hb, decide_eq_true ⟨by omega, by omega⟩, show ((K : Int).toNat) = K from rfl, hgd, decide_eq_false hz]
  rfl

variable (g : Nat → PV) (lf n : Nat)

theorem loadAt {xs : List Int} {p a : PV} {h : PHeap} {i : Nat} (hp : IntSl .i64 h p xs) (hi : i < xs.length) (ha : indexAddrP Tryd.prog 23 p (.int .i64 (i : Int)) = some a) : loadP Tryd.prog 3 a h = some (.int .i64 xs[i]) := by
  obtain ⟨a', ha', hla⟩ := hp.at' hi
  obtain rfl : a = a' := Option.some.inj (ha.symm.trans ha')
  exact hla

end Go.Proofs.YtfgjbfaapbhppaaDoor

/- Promise 15 over what the program's functions are asked to compute. -/
namespace Go.Proofs.YtfgjbfaapbhppaaDoor
open Go Go.Ip G

/-! ### sides -/
theorem sideFrom_bit (R C P : Nat) (last : Bool) (j : Nat) : ∀ (m i w : Nat), (sideFrom R C P last m i w).testBit j = true ↔ w.testBit j = true ∨ (i ≤ j ∧ j < i + m ∧ (bif last then decide (atSide C P j = endSide R C P) else decide (atSide C P j = 0)) = true)
  | 0, i, w => by
    rw [sideFrom]
    constructor
    · exact .inl
    · rintro (h | ⟨h1, h2, _⟩)
      · exact h
      · omega
  | m + 1, i, w => by
    rw [sideFrom, sideFrom_bit R C P last j m (i + 1)]
    by_cases hb : (bif last then decide (atSide C P i = endSide R C P) else decide (atSide C P i = 0)) = true
    · rw [if_pos hb, Nat.testBit_or, one_bit, Bool.or_eq_true, decide_eq_true_iff]
      constructor
      · rintro ((h | h) | ⟨h1, h2, h3⟩)
        · exact .inl h
        · subst h; exact .inr ⟨Nat.le_refl _, by omega, hb⟩
        · exact .inr ⟨by omega, by omega, h3⟩
      · rintro (h | ⟨h1, h2, h3⟩)
        · exact .inl (.inl h)
        · by_cases e : j = i
          · exact .inl (.inr e)
          · exact .inr ⟨by omega, by omega, h3⟩
    · rw [if_neg hb]
      constructor
      · rintro (h | ⟨h1, h2, h3⟩)
        · exact .inl h
        · exact .inr ⟨by omega, by omega, h3⟩
      · rintro (h | ⟨h1, h2, h3⟩)
        · exact .inl h
        · by_cases e : j = i
          · subst e; exact absurd h3 hb
          · exact .inr ⟨by omega, by omega, h3⟩

def sideV (R C P : Nat) (last : Bool) : Nat := bif last then endSide R C P else 0
theorem sideN_bit (R C P : Nat) (last : Bool) (j : Nat) : (sideN R C P last).testBit j = true ↔ j < R * C ∧ atSide C P j = sideV R C P last := by
  unfold sideN
  rw [sideFrom_bit]
  constructor
  · rintro (h | ⟨_, h2, h3⟩)
    · rw [Nat.zero_testBit] at h; cases h
    · refine ⟨by omega, ?_⟩
      cases last <;> exact of_decide_eq_true h3
  · rintro ⟨h1, h2⟩
    refine .inr ⟨Nat.zero_le _, by omega, ?_⟩
    cases last <;> exact decide_eq_true h2

/-- Does a list have a cell of that side? -/
def anyAt (C P v : Nat) (L : List Int) : Bool := L.any fun e => decide (atSide C P e.toNat = v)
def goodC (R C P : Nat) (xs : List Int) (k : Nat) : Bool := decide (xs[k]? = some (P : Int)) && (anyAt C P (sideV R C P false) (groupL (R : Int) (C : Int) xs (k : Int)) && anyAt C P (sideV R C P true) (groupL (R : Int) (C : Int) xs (k : Int)))

theorem reach_start {M : List Nat} {S fr j : Nat} (h : Reach M S fr j) : ∃ s, fr.testBit s = true ∧ S.testBit s = true ∧ Reach M S (1 <<< s) j := by
  induction h with
  | @start j h hs => exact ⟨j, h, hs, reach_one hs⟩
  | step _ ha hs ih =>
    obtain ⟨s, h1, h2, h3⟩ := ih
    exact ⟨s, h1, h2, .step h3 ha hs⟩

theorem group_any {R C P K : Nat} {xs : List Int} (hb : posB (R : Int) (C : Int) xs = true) (hS : Sides (R : Int) (C : Int) R C xs) (hP : P = 1 ∨ P = 2) (hK : xs[K]? = some (P : Int)) (last : Bool) :
    anyAt C P (sideV R C P last) (groupL (R : Int) (C : Int) xs (K : Int)) = true ↔ ∃ j, (sideN R C P last).testBit j = true ∧ Reach (masksN R C) (setL xs (P : Int)) (1 <<< K) j := by
  have hSx := set_lt9 hS (P : Int)
  rw [groupL_stone hb hK (by rcases hP with rfl | rfl <;> decide)]
  unfold anyAt
  rw [List.any_eq_true]
  constructor
  · rintro ⟨e, he, hd⟩
    obtain ⟨j, rfl, hj⟩ := (listN_mem (grow_lt hSx) e).1 he
    have hr := (grow_bit hSx j).1 hj
    exact ⟨j, (sideN_bit R C P last j).2 ⟨set_in hS hr.inSet, of_decide_eq_true hd⟩, hr⟩
  · rintro ⟨j, h1, h2⟩
    exact ⟨(j : Int), (listN_mem (grow_lt hSx) _).2 ⟨j, rfl, (grow_bit hSx j).2 h2⟩, decide_eq_true ((sideN_bit R C P last j).1 h1).2⟩

theorem joins_groups {R C P : Nat} {xs : List Int} (hb : posB (R : Int) (C : Int) xs = true) (hS : Sides (R : Int) (C : Int) R C xs) (hP : P = 1 ∨ P = 2) : joinsL (R : Int) (C : Int) xs (P : Int) = (List.range xs.length).any (goodC R C P xs) := by
  have hB := board_of_sides hS
  have hSx := set_lt9 hS (P : Int)
  rw [joinsL_eq hb hP, Bool.eq_iff_iff, joins_iff hSx, List.any_eq_true]
  constructor
  · rintro ⟨j, h1, h2⟩
    obtain ⟨s, hs1, hs2, hs3⟩ := reach_start h2
    have hxs := setL_bit.1 hs2
    refine ⟨s, by rw [List.mem_range]; exact (List.getElem?_eq_some_iff.1 hxs).1, ?_⟩
    unfold goodC
    rw [Bool.and_eq_true, Bool.and_eq_true, decide_eq_true_iff, group_any hb hS hP hxs, group_any hb hS hP hxs]
    exact ⟨hxs, ⟨s, hs1, reach_one hs2⟩, ⟨j, h1, hs3⟩⟩
  · rintro ⟨k, _, hg⟩
    unfold goodC at hg
    rw [Bool.and_eq_true, Bool.and_eq_true, decide_eq_true_iff] at hg
    obtain ⟨hxk, h1, h2⟩ := hg
    obtain ⟨a, ha1, ha2⟩ := (group_any hb hS hP hxk false).1 h1
    obtain ⟨b, hb1, hb2⟩ := (group_any hb hS hP hxk true).1 h2
    refine ⟨b, hb1, ?_⟩
    have hka : Reach (masksN R C) (setL xs (P : Int)) (1 <<< a) k := Reach.back (adj_sym hB) (setL_bit.2 hxk) ha2
    have one : ∀ {a : Nat} {x : Nat}, (1 <<< a).testBit x = true → x = a := fun {a x} hx => by rw [one_bit] at hx; exact of_decide_eq_true hx
    have : Reach (masksN R C) (setL xs (P : Int)) (sideN R C P false) a := .start ha1 ha2.inSet
    have hk2 : Reach (masksN R C) (setL xs (P : Int)) (sideN R C P false) k := Reach.trans (fun x hx => by rw [one hx]; exact this) hka
    exact Reach.trans (fun x hx => by rw [one hx]; exact hk2) hb2

variable (g : Nat → PV) (lf n : Nat)

theorem or_guard {β : Type} {F D : Bool} {h : PHeap} {x : PV} {f : PV × PHeap → Option β} {r : Option β} {at_ : Option PV} (hat : at_ = some (.bool D)) (hr : f (.bool (F || D), h) = r) :
    ((wantV (.bool F) false).bind fun v100 => (bif v100 then some (x, h) else some (.tup [], h)).bind fun v101 =>
      (wantV (.bool F) false).bind fun v102 => (bif v102 then pv v101.2 at_ else some (.tup [], v101.2)).bind fun v103 =>
      (pickP (.bool F) (.bool true) v103.1).bind fun v104 => f (v104, v103.2)) = r := by
  subst hat
  cases F <;> simpa using hr

end Go.Proofs.YtfgjbfaapbhppaaDoor

/- What chapter 3's functions tell of a position (moveL, playedL, winL, winCellsL, lineL), and what holds of them. No program text. -/
namespace Go.Proofs.YtfgjbfaapbhppaaDoor
open Go Go.Ip G

def moveL (r c : Int) (xs : List Int) (k pl : Int) : Bool := posB r c xs && playerB pl && decide (0 ≤ k ∧ k < (xs.length : Int)) && decide (xs.getD k.toNat 0 = 0) && !joinsL r c xs 1 && !joinsL r c xs 2
def playedL (r c : Int) (xs : List Int) (k pl : Int) : List Int := if moveL r c xs k pl = true then xs.set k.toNat pl else []
def winL (r c : Int) (xs : List Int) (t : Int) : Int := if (posB r c xs && playerB t) = true then ((winN r.toNat c.toNat (setL xs 1) (setL xs 2) t.toNat : Nat) : Int) else 0
def winsB (r c : Int) (xs : List Int) (pl : Int) (k : Nat) : Bool := moveL r c xs (k : Int) pl && decide (winL r c (xs.set k pl) (3 - pl) = pl)
def winCellsL (r c : Int) (xs : List Int) (pl : Int) : List Int := ((List.range xs.length).filter (winsB r c xs pl)).map fun k : Nat => (k : Int)
def goB (r c : Int) (xs : List Int) : Bool := !decide (setL xs 0 = 0) && !joinsL r c xs 1 && !joinsL r c xs 2
def stepL (r c : Int) (xs : List Int) (t : Int) : Int := (winCellsL r c xs t).headD ((listN (setL xs 0)).headD 0)
def lineF (r c : Int) : Nat → List Int → Int → List Int
  | 0, _, _ => []
  | f + 1, xs, t => if goB r c xs = true then stepL r c xs t :: lineF r c f (xs.set (stepL r c xs t).toNat t) (3 - t) else []
def lineL (r c : Int) (xs : List Int) (t : Int) : List Int := if (posB r c xs && playerB t) = true then lineF r c xs.length xs t else []

/-! ### none -/
theorem playerB_of {P : Nat} (hP : P = 1 ∨ P = 2) : playerB (P : Int) = true := by rcases hP with rfl | rfl <;> rfl
theorem playerB_none {pl : Int} (h : 2 < pl) : playerB pl = false := by unfold playerB; exact decide_eq_false (by omega)
theorem moveL_none {r c : Int} {xs : List Int} {k pl : Int} (h : posB r c xs = false ∨ 2 < pl) : moveL r c xs k pl = false := by
  unfold moveL
  rcases h with h | h
  · rw [h]; rfl
  · rw [playerB_none h]; simp
theorem winL_none {r c : Int} {xs : List Int} {pl : Int} (h : posB r c xs = false ∨ 2 < pl) : winL r c xs pl = 0 := by
  unfold winL
  rw [if_neg]
  rcases h with h | h
  · rw [h]; simp
  · rw [playerB_none h]; simp
theorem winCellsL_none {r c : Int} {xs : List Int} {pl : Int} (h : posB r c xs = false ∨ 2 < pl) : winCellsL r c xs pl = [] := by
  unfold winCellsL
  rw [List.filter_eq_nil_iff.2 fun k _ => by unfold winsB; rw [moveL_none h]; simp]
  rfl
theorem lineL_none {r c : Int} {xs : List Int} {pl : Int} (h : posB r c xs = false ∨ 2 < pl) : lineL r c xs pl = [] := by
  unfold lineL
  rw [if_neg]
  rcases h with h | h
  · rw [h]; simp
  · rw [playerB_none h]; simp
theorem lineF_length (r c : Int) : ∀ (f : Nat) (xs : List Int) (t : Int), (lineF r c f xs t).length ≤ f
  | 0, _, _ => Nat.le_refl _
  | f + 1, xs, t => by
    rw [lineF]; split
    · have := lineF_length r c f (xs.set (stepL r c xs t).toNat t) (3 - t)
      rw [List.length_cons]; omega
    · exact Nat.zero_le _
theorem lineL_length (r c : Int) (xs : List Int) (t : Int) : (lineL r c xs t).length ≤ xs.length := by
  unfold lineL; split
  · exact lineF_length ..
  · exact Nat.zero_le _
theorem winCellsL_length (r c : Int) (xs : List Int) (t : Int) : (winCellsL r c xs t).length ≤ xs.length := by
  unfold winCellsL
  rw [List.length_map]
  have := List.length_filter_le (winsB r c xs t) (List.range xs.length)
  rw [List.length_range] at this; exact this
theorem playedL_length (r c : Int) (xs : List Int) (k t : Int) : (playedL r c xs k t).length ≤ xs.length := by
  unfold playedL; split
  · rw [List.length_set]; exact Nat.le_refl _
  · exact Nat.zero_le _

/-! ### sets -/
section
variable {R C : Nat} {xs : List Int} (hb : posB (R : Int) (C : Int) xs = true) (hS : Sides (R : Int) (C : Int) R C xs)
include hS
theorem pos_sets : Pos R C (setL xs 1) (setL xs 2) :=
  ⟨set_lt hS 1, set_lt hS 2, fun j h1 h2 => by
    rw [setL_bit] at h1 h2; rw [h1] at h2; exact absurd (Option.some.inj h2) (by decide)⟩
theorem free_bit {k : Nat} (hk : k < R * C) : (setL xs 1 ||| setL xs 2).testBit k = false ↔ xs[k]? = some 0 := by
  rw [Nat.testBit_or, Bool.or_eq_false_iff]
  have e1 : (setL xs 1).testBit k = false ↔ ¬ xs[k]? = some 1 := by rw [← setL_bit]; simp
  have e2 : (setL xs 2).testBit k = false ↔ ¬ xs[k]? = some 2 := by rw [← setL_bit]; simp
  rw [e1, e2]
  rcases content_cases hS hk with h | h | h <;> rw [h] <;> simp
omit hS
theorem set_putA {P k : Nat} (hP : P = 1 ∨ P = 2) (hk : xs[k]? = some 0) : setL (xs.set k (P : Int)) 1 = putA P k (setL xs 1) ∧ setL (xs.set k (P : Int)) 2 = putB P k (setL xs 2) := by
  have hkl : k < xs.length := (List.getElem?_eq_some_iff.1 hk).1
  rcases hP with rfl | rfl
  · refine ⟨Nat.eq_of_testBit_eq fun j => ?_, Nat.eq_of_testBit_eq fun j => ?_⟩
    · show _ = (setL xs 1 ||| (1 <<< k)).testBit j
      rw [with_bit, Bool.eq_iff_iff, Bool.or_eq_true, decide_eq_true_iff, setL_bit, setL_bit, List.getElem?_set]
      by_cases e : k = j
      · subst e; simp [hkl]
      · rw [if_neg e]; exact ⟨.inl, fun h => h.resolve_right fun h2 => e h2.symm⟩
    · show _ = (setL xs 2).testBit j
      rw [Bool.eq_iff_iff, setL_bit, setL_bit, List.getElem?_set]
      by_cases e : k = j
      · subst e; rw [hk]; simp [hkl]
      · rw [if_neg e]
  · refine ⟨Nat.eq_of_testBit_eq fun j => ?_, Nat.eq_of_testBit_eq fun j => ?_⟩
    · show _ = (setL xs 1).testBit j
      rw [Bool.eq_iff_iff, setL_bit, setL_bit, List.getElem?_set]
      by_cases e : k = j
      · subst e; rw [hk]; simp [hkl]
      · rw [if_neg e]
    · show _ = (setL xs 2 ||| (1 <<< k)).testBit j
      rw [with_bit, Bool.eq_iff_iff, Bool.or_eq_true, decide_eq_true_iff, setL_bit, setL_bit, List.getElem?_set]
      by_cases e : k = j
      · subst e; simp [hkl]
      · rw [if_neg e]; exact ⟨.inl, fun h => h.resolve_right fun h2 => e h2.symm⟩
include hb
theorem joins_one : joinsL (R : Int) (C : Int) xs 1 = joinsN R C 1 (setL xs 1) := joinsL_eq (P := 1) hb (.inl rfl)
theorem joins_two : joinsL (R : Int) (C : Int) xs 2 = joinsN R C 2 (setL xs 2) := joinsL_eq (P := 2) hb (.inr rfl)
theorem winL_eq {T : Nat} (hT : T = 1 ∨ T = 2) : winL (R : Int) (C : Int) xs (T : Int) = ((winN R C (setL xs 1) (setL xs 2) T : Nat) : Int) := by
  unfold winL; rw [hb, playerB_of hT]; rfl
theorem winL_set {P T k : Nat} (hP : P = 1 ∨ P = 2) (hT : T = 1 ∨ T = 2) (hk : xs[k]? = some 0) : winL (R : Int) (C : Int) (xs.set k (P : Int)) (T : Int) = ((winN R C (putA P k (setL xs 1)) (putB P k (setL xs 2)) T : Nat) : Int) := by
  rw [winL_eq (pos_set hb hP k) hT, (set_putA hP hk).1, (set_putA hP hk).2]
theorem winL_cases {T : Nat} (hT : T = 1 ∨ T = 2) : ∃ W : Nat, winL (R : Int) (C : Int) xs (T : Int) = (W : Int) ∧ (W = 1 ∨ W = 2) := ⟨_, winL_eq hb hT, win_cases hT⟩
include hS
theorem sides_set {P k : Nat} (hP : P = 1 ∨ P = 2) : Sides (R : Int) (C : Int) R C (xs.set k (P : Int)) := by
  have h2 := pos_set hb hP k
  obtain ⟨a1, a2, a3, a4, a5, a6, a7, a8, a9⟩ := hS
  refine ⟨a1, a2, a3, a4, a5, a6, a7, by rw [List.length_set]; exact a8, ?_⟩
  unfold posB at h2; rw [Bool.and_eq_true] at h2; exact h2.2
theorem free_some (h1 : joinsL (R : Int) (C : Int) xs 1 = false) (h2 : joinsL (R : Int) (C : Int) xs 2 = false) : ∃ k, k < xs.length ∧ xs[k]? = some 0 := by
  rw [joins_one hb] at h1; rw [joins_two hb] at h2
  obtain ⟨k, hk, hf⟩ := (pos_sets hS).free (board_of_sides hS) h1 h2
  have hlen : xs.length = R * C := hS.2.2.2.2.2.2.2.1
  exact ⟨k, by rw [hlen]; exact hk, (free_bit hS hk).1 hf⟩
theorem winL_done {P T : Nat} (hP : P = 1 ∨ P = 2) (hT : T = 1 ∨ T = 2) (hj : joinsL (R : Int) (C : Int) xs (P : Int) = true) : winL (R : Int) (C : Int) xs (T : Int) = (P : Int) := by
  rw [winL_eq hb hT]
  rcases hP with rfl | rfl
  · rw [win_first]; rw [← joins_one hb]; exact hj
  · rw [win_second (board_of_sides hS) (pos_sets hS)]; rw [← joins_two hb]; exact hj
theorem winL_open {T : Nat} (hT : T = 1 ∨ T = 2) (h1 : joinsL (R : Int) (C : Int) xs 1 = false) (h2 : joinsL (R : Int) (C : Int) xs 2 = false) : winL (R : Int) (C : Int) xs (T : Int) = (T : Int) ↔ ∃ k : Nat, xs[k]? = some 0 ∧ winL (R : Int) (C : Int) (xs.set k (T : Int)) (3 - (T : Int)) = (T : Int) := by
  have hlen : xs.length = R * C := hS.2.2.2.2.2.2.2.1
  have hT' : 3 - T = 1 ∨ 3 - T = 2 := by omega
  have e3 : (3 : Int) - (T : Int) = ((3 - T : Nat) : Int) := by omega
  rw [winL_eq hb hT, win_open (by rw [← joins_one hb]; exact h1) (by rw [← joins_two hb]; exact h2)]
  have : (((if moveB R C (setL xs 1) (setL xs 2) T = true then T else 3 - T : Nat) : Int) = (T : Int)) ↔ moveB R C (setL xs 1) (setL xs 2) T = true := by
    cases moveB R C (setL xs 1) (setL xs 2) T
    · simp only [Bool.false_eq_true, ↓reduceIte]; rcases hT with rfl | rfl <;> decide
    · simp only [↓reduceIte]
  rw [this, moveB_iff]
  constructor
  · rintro ⟨k, hk, hf, hw⟩
    have hk0 := (free_bit hS hk).1 hf
    exact ⟨k, hk0, by rw [e3, winL_set hb hT hT' hk0, hw]⟩
  · rintro ⟨k, hk0, hw⟩
    have hk : k < R * C := by rw [← hlen]; exact (List.getElem?_eq_some_iff.1 hk0).1
    rw [e3, winL_set hb hT hT' hk0] at hw
    exact ⟨k, hk, (free_bit hS hk).2 hk0, Int.ofNat_inj.1 hw⟩
/-- A stone more of who wins. -/
theorem winL_more {T W k : Nat} (hT : T = 1 ∨ T = 2) (hW : W = 1 ∨ W = 2) (hk : xs[k]? = some 0) (hw : winL (R : Int) (C : Int) xs (T : Int) = (W : Int)) : winL (R : Int) (C : Int) (xs.set k (W : Int)) (T : Int) = (W : Int) := by
  have hlen : xs.length = R * C := hS.2.2.2.2.2.2.2.1
  have hk' : k < R * C := by rw [← hlen]; exact (List.getElem?_eq_some_iff.1 hk).1
  have hf := (free_bit hS hk').2 hk
  have hB := board_of_sides hS
  have hp := pos_sets hS
  rw [winL_eq hb hT] at hw
  have hw' : winN R C (setL xs 1) (setL xs 2) T = W := by omega
  rw [winL_set hb hW hT hk]
  have hpp := hp.put (t := W) hk' hf
  rcases hW with rfl | rfl
  · rw [win_mono hB hp hpp (better_fr (n := 0)) hT hw']
  · rw [win_mono2 hB hpp hp ⟨fun _ h => h, fun j hj => by show (setL xs 2 ||| (1 <<< k)).testBit j = true; rw [with_bit, hj]; rfl⟩ hT hw']
theorem winL_first {T W : Nat} (hT : T = 1 ∨ T = 2) (hW : W = 1 ∨ W = 2) (hw : winL (R : Int) (C : Int) xs (T : Int) = (W : Int)) : winL (R : Int) (C : Int) xs (W : Int) = (W : Int) := by
  have hB := board_of_sides hS
  have hp := pos_sets hS
  rw [winL_eq hb hT] at hw
  have hw' : winN R C (setL xs 1) (setL xs 2) T = W := by omega
  rw [winL_eq hb hW]
  rcases hT with rfl | rfl <;> rcases hW with rfl | rfl
  · rw [hw']
  · rw [win_move2 hB hp hw']
  · rw [win_move hB hp hw']
  · rw [hw']
end

/-! ### turned, mirrored -/
theorem perm_turn (n : Nat) : Perm (fun k => n - 1 - k) n :=
  ⟨fun k hk => by show n - 1 - k < n; omega, fun i k hi hk (h : n - 1 - i = n - 1 - k) => by omega, fun j hj => ⟨n - 1 - j, by omega, by show n - 1 - (n - 1 - j) = j; omega⟩⟩
theorem perm_sig {R C : Nat} (hB : BoardOf R C) : Perm (sig C R) (R * C) := by
  obtain ⟨h1, h2, h3, h4, h9⟩ := hB
  have a : ∀ k, k < R * C → sig C R k < R * C ∧ sig R C (sig C R k) = k := fun k hk => by
    have := sig_lt h3 h4 h1 h2 (by rw [Nat.mul_comm]; exact h9) (by rw [Nat.mul_comm]; exact hk)
    rw [Nat.mul_comm C R] at this; exact this
  have b : ∀ k, k < R * C → sig R C k < R * C ∧ sig C R (sig R C k) = k := fun k hk => sig_lt h1 h2 h3 h4 h9 hk
  exact ⟨fun k hk => (a k hk).1, fun i k hi hk h => by rw [← (a i hi).2, ← (a k hk).2, h], fun j hj => ⟨sig R C j, (b j hj).1, (b j hj).2⟩⟩

theorem hex_moves {R C S : Nat} (hB : BoardOf R C) (hS : S < 2 ^ (R * C)) :
    joinsN R C 1 (moved (fun k => R * C - 1 - k) S (R * C)) = joinsN R C 1 S ∧ joinsN R C 2 (moved (fun k => R * C - 1 - k) S (R * C)) = joinsN R C 2 S ∧
    joinsN C R 2 (moved (sig C R) S (R * C)) = joinsN R C 1 S ∧ joinsN C R 1 (moved (sig C R) S (R * C)) = joinsN R C 2 S := by
  have := hex_ok hB hS
  unfold hexB at this
  simp only [Bool.and_eq_true, beq_iff_eq] at this
  exact ⟨this.1.1.1.2, this.1.1.2, this.1.2, this.2⟩

theorem board_swap {R C : Nat} (hB : BoardOf R C) : BoardOf C R := ⟨hB.2.2.1, hB.2.2.2.1, hB.1, hB.2.1, by rw [Nat.mul_comm]; exact hB.2.2.2.2⟩

section
variable {R C : Nat} {xs : List Int} (hb : posB (R : Int) (C : Int) xs = true) (hS : Sides (R : Int) (C : Int) R C xs)
include hb hS
theorem winL_turned {T : Nat} (hT : T = 1 ∨ T = 2) (hb' : posB (R : Int) (C : Int) xs.reverse = true) : winL (R : Int) (C : Int) xs.reverse (T : Int) = winL (R : Int) (C : Int) xs (T : Int) := by
  have hB := board_of_sides hS
  have hlen : xs.length = R * C := hS.2.2.2.2.2.2.2.1
  rw [winL_eq hb' hT, winL_eq hb hT, setL_reverse, setL_reverse, hlen]
  rw [winN_moved hB hB rfl (perm_turn (R * C)) (fun S h => (hex_moves hB h).1) (fun S h => (hex_moves hB h).2.1) _ _ _ T (Nat.le_refl _) (pos_sets hS)]
theorem winL_mirrored {T : Nat} (hT : T = 1 ∨ T = 2) (hb' : posB (C : Int) (R : Int) (mir R C xs) = true) : winL (C : Int) (R : Int) (mir R C xs) ((3 - T : Nat) : Int) = 3 - winL (R : Int) (C : Int) xs (T : Int) := by
  have hB := board_of_sides hS
  have hT' : 3 - T = 1 ∨ 3 - T = 2 := by omega
  have e1 : setL (mir R C xs) 1 = moved (sig C R) (setL xs 2) (R * C) := setL_mir hS 2
  have e2 : setL (mir R C xs) 2 = moved (sig C R) (setL xs 1) (R * C) := setL_mir hS 1
  rw [winL_eq hb' hT', winL_eq hb hT, e1, e2]
  rw [winN_swapped hB (Nat.mul_comm C R) (perm_sig hB) (fun S h => (hex_moves hB h).2.2.1) (fun S h => (hex_moves hB h).2.2.2) _ _ _ T (Nat.le_refl _) (pos_sets hS) hT]
  have := win_cases (R := R) (C := C) (a := setL xs 1) (b := setL xs 2) hT
  omega
end

/-! ### moves -/
theorem moveL_iff {r c : Int} {xs : List Int} {pl : Int} {k : Nat} : moveL r c xs (k : Int) pl = true ↔ posB r c xs = true ∧ playerB pl = true ∧ xs[k]? = some 0 ∧ joinsL r c xs 1 = false ∧ joinsL r c xs 2 = false := by
  unfold moveL
  simp only [Bool.and_eq_true, Bool.not_eq_true', decide_eq_true_eq]
  constructor
  · rintro ⟨⟨⟨⟨⟨h1, h2⟩, h3⟩, h4⟩, h5⟩, h6⟩
    have hk : k < xs.length := by omega
    refine ⟨h1, h2, ?_, h5, h6⟩
    rw [List.getElem?_eq_getElem hk]
    have : xs.getD k 0 = xs[k] := by rw [List.getD_eq_getElem?_getD, List.getElem?_eq_getElem hk]; rfl
    rw [← this]
    exact congrArg some h4
  · rintro ⟨h1, h2, h3, h5, h6⟩
    have hk : k < xs.length := (List.getElem?_eq_some_iff.1 h3).1
    refine ⟨⟨⟨⟨⟨h1, h2⟩, by omega⟩, ?_⟩, h5⟩, h6⟩
    show xs.getD k 0 = 0
    rw [List.getD_eq_getElem?_getD, h3]; rfl
theorem moveL_cell {r c : Int} {xs : List Int} {k pl : Int} (h : moveL r c xs k pl = true) : ∃ K : Nat, k = (K : Int) ∧ K < xs.length := by
  unfold moveL at h
  simp only [Bool.and_eq_true, decide_eq_true_eq] at h
  have := h.1.1.1.2
  obtain ⟨K, rfl⟩ := Int.eq_ofNat_of_zero_le this.1
  exact ⟨K, rfl, by omega⟩
theorem moveL_other {r c : Int} {xs : List Int} {k : Int} {P Q : Nat} (hP : P = 1 ∨ P = 2) (hQ : Q = 1 ∨ Q = 2) : moveL r c xs k (P : Int) = moveL r c xs k (Q : Int) := by
  unfold moveL; rw [playerB_of hP, playerB_of hQ]
theorem playedL_eq {r c : Int} {xs : List Int} {k : Nat} {pl : Int} (h : moveL r c xs (k : Int) pl = true) : playedL r c xs (k : Int) pl = xs.set k pl := by
  unfold playedL; rw [if_pos h]; rfl
/-- A stone of the other one joins nothing. -/
theorem joins_other_set {R C P : Nat} {xs : List Int} (hb : posB (R : Int) (C : Int) xs = true) (hP : P = 1 ∨ P = 2) {k : Nat} (hk : xs[k]? = some 0) : joinsL (R : Int) (C : Int) (xs.set k (P : Int)) ((3 - P : Nat) : Int) = joinsL (R : Int) (C : Int) xs ((3 - P : Nat) : Int) := by
  have hb2 := pos_set hb hP k
  have h := set_putA hP hk
  rcases hP with rfl | rfl
  · have e1 := joins_two hb2
    have e2 := joins_two hb
    rw [h.2] at e1
    exact e1.trans e2.symm
  · have e1 := joins_one hb2
    have e2 := joins_one hb
    rw [h.1] at e1
    exact e1.trans e2.symm

/-! ### winning cells -/
theorem winsB_iff {r c : Int} {xs : List Int} {pl : Int} {k : Nat} : winsB r c xs pl k = true ↔ moveL r c xs (k : Int) pl = true ∧ winL r c (xs.set k pl) (3 - pl) = pl := by
  unfold winsB; rw [Bool.and_eq_true, decide_eq_true_eq]
theorem winCells_mem {r c : Int} {xs : List Int} {pl : Int} {e : Int} : e ∈ winCellsL r c xs pl ↔ ∃ k : Nat, e = (k : Int) ∧ winsB r c xs pl k = true := by
  unfold winCellsL
  rw [List.mem_map]
  constructor
  · rintro ⟨k, hk, rfl⟩
    exact ⟨k, rfl, (List.mem_filter.1 hk).2⟩
  · rintro ⟨k, rfl, hk⟩
    refine ⟨k, List.mem_filter.2 ⟨List.mem_range.2 ?_, hk⟩, rfl⟩
    exact (List.getElem?_eq_some_iff.1 (moveL_iff.1 (winsB_iff.1 hk).1).2.2.1).1
theorem winCells_sorted (r c : Int) (xs : List Int) (pl : Int) : (winCellsL r c xs pl).Pairwise (· < ·) := by
  unfold winCellsL
  rw [List.pairwise_map]
  exact ((List.pairwise_lt_range).filter _).imp fun h => by omega
section
variable {R C : Nat} {xs : List Int} (hb : posB (R : Int) (C : Int) xs = true) (hS : Sides (R : Int) (C : Int) R C xs)
include hb hS
theorem winCells_some {P : Nat} (hP : P = 1 ∨ P = 2) (h1 : joinsL (R : Int) (C : Int) xs 1 = false) (h2 : joinsL (R : Int) (C : Int) xs 2 = false) : 0 < (winCellsL (R : Int) (C : Int) xs (P : Int)).length ↔ winL (R : Int) (C : Int) xs (P : Int) = (P : Int) := by
  rw [winL_open hb hS hP h1 h2, List.length_pos_iff_exists_mem]
  constructor
  · rintro ⟨e, he⟩
    obtain ⟨k, rfl, hk⟩ := winCells_mem.1 he
    have hk := winsB_iff.1 hk
    exact ⟨k, (moveL_iff.1 hk.1).2.2.1, hk.2⟩
  · rintro ⟨k, hk, hw⟩
    exact ⟨(k : Int), winCells_mem.2 ⟨k, rfl, winsB_iff.2 ⟨moveL_iff.2 ⟨hb, playerB_of hP, hk, h1, h2⟩, hw⟩⟩⟩
omit hb hS
theorem winCells_done {r c : Int} {pl : Int} (h : joinsL r c xs 1 = true ∨ joinsL r c xs 2 = true) : winCellsL r c xs pl = [] := by
  unfold winCellsL
  rw [List.filter_eq_nil_iff.2 fun k _ => ?_]
  · rfl
  · intro hw
    have := moveL_iff.1 (winsB_iff.1 hw).1
    rcases h with h | h
    · rw [h] at this; exact absurd this.2.2.2.1 (by decide)
    · rw [h] at this; exact absurd this.2.2.2.2 (by decide)
include hb hS
/-- With a stone more of the player the other winning cells stay. -/
theorem winCells_grow {P k0 k : Nat} (hP : P = 1 ∨ P = 2) (hk0 : xs[k0]? = some 0) (hj : joinsL (R : Int) (C : Int) (xs.set k0 (P : Int)) (P : Int) = false) (hk : winsB (R : Int) (C : Int) xs (P : Int) k = true) (hne : k ≠ k0) : winsB (R : Int) (C : Int) (xs.set k0 (P : Int)) (P : Int) k = true := by
  have hw := winsB_iff.1 hk
  have hm := moveL_iff.1 hw.1
  have hP' : 3 - P = 1 ∨ 3 - P = 2 := by omega
  have hb2 := pos_set hb hP k0
  have hS2 := sides_set hb hS (k := k0) hP
  have e3 : (3 : Int) - (P : Int) = ((3 - P : Nat) : Int) := by omega
  have hkk : (xs.set k0 (P : Int))[k]? = some 0 := by rw [List.getElem?_set_ne (by omega)]; exact hm.2.2.1
  have hk2 : (xs.set k (P : Int))[k0]? = some 0 := by rw [List.getElem?_set_ne (by omega)]; exact hk0
  refine winsB_iff.2 ⟨moveL_iff.2 ⟨hb2, playerB_of hP, hkk, ?_, ?_⟩, ?_⟩
  · rcases hP with rfl | rfl
    · exact hj
    · exact (joins_other_set hb (.inr rfl) hk0).trans hm.2.2.2.1
  · rcases hP with rfl | rfl
    · exact (joins_other_set hb (.inl rfl) hk0).trans hm.2.2.2.2
    · exact hj
  · rw [List.set_comm _ _ hne.symm]
    have hb3 := pos_set hb hP k
    have hS3 := sides_set hb hS (k := k) hP
    have := hw.2
    rw [e3] at this ⊢
    exact winL_more hb3 hS3 hP' hP hk2 this
end

/-! ### played on -/
theorem listN_some {S : Nat} (hS : S < 2 ^ 9) (h : S ≠ 0) : ∃ (k : Nat) (l : List Int), listN S = (k : Int) :: l ∧ S.testBit k = true := by
  cases e : listN S with
  | nil =>
    obtain ⟨j, hj⟩ : ∃ j, S.testBit j = true := by
      apply Classical.byContradiction
      intro hh
      refine h (Nat.eq_of_testBit_eq fun j => ?_)
      rw [Nat.zero_testBit]
      cases e : S.testBit j with
      | false => rfl
      | true => exact (hh ⟨j, e⟩).elim
    have := (listN_mem hS (j : Int)).2 ⟨j, rfl, hj⟩
    rw [e] at this; cases this
  | cons a l =>
    obtain ⟨j, rfl, hj⟩ := (listN_mem hS a).1 (by rw [e]; exact List.mem_cons_self ..)
    exact ⟨j, l, rfl, hj⟩
section
variable {R C : Nat} {xs : List Int} (hb : posB (R : Int) (C : Int) xs = true) (hS : Sides (R : Int) (C : Int) R C xs)
include hb hS
theorem goB_iff : goB (R : Int) (C : Int) xs = true ↔ joinsL (R : Int) (C : Int) xs 1 = false ∧ joinsL (R : Int) (C : Int) xs 2 = false := by
  unfold goB
  simp only [Bool.and_eq_true, Bool.not_eq_true', decide_eq_false_iff_not]
  constructor
  · exact fun h => ⟨h.1.2, h.2⟩
  · rintro ⟨h1, h2⟩
    refine ⟨⟨fun h0 => ?_, h1⟩, h2⟩
    obtain ⟨k, _, hk⟩ := free_some hb hS h1 h2
    have := setL_bit.2 hk
    rw [h0, Nat.zero_testBit] at this; cases this
/-- The move that is played: it may be made, and who wins wins still. -/
theorem stepL_ok {T W : Nat} (hT : T = 1 ∨ T = 2) (hW : W = 1 ∨ W = 2) (hg : goB (R : Int) (C : Int) xs = true) (hw : winL (R : Int) (C : Int) xs (T : Int) = (W : Int)) :
    ∃ k : Nat, stepL (R : Int) (C : Int) xs (T : Int) = (k : Int) ∧ moveL (R : Int) (C : Int) xs (k : Int) (T : Int) = true ∧ winL (R : Int) (C : Int) (xs.set k (T : Int)) (3 - (T : Int)) = (W : Int) := by
  obtain ⟨h1, h2⟩ := (goB_iff hb hS).1 hg
  have hT' : 3 - T = 1 ∨ 3 - T = 2 := by omega
  have e3 : (3 : Int) - (T : Int) = ((3 - T : Nat) : Int) := by omega
  unfold stepL
  cases e : winCellsL (R : Int) (C : Int) xs (T : Int) with
  | cons a l =>
    obtain ⟨k, rfl, hk⟩ := winCells_mem.1 (show a ∈ winCellsL (R : Int) (C : Int) xs (T : Int) by rw [e]; exact List.mem_cons_self ..)
    have hk := winsB_iff.1 hk
    have : winL (R : Int) (C : Int) xs (T : Int) = (T : Int) := (winCells_some hb hS hT h1 h2).1 (by rw [e]; simp)
    have hWT : W = T := by omega
    subst hWT
    exact ⟨k, rfl, hk.1, hk.2⟩
  | nil =>
    have hs0 : setL xs 0 ≠ 0 := by unfold goB at hg; simp only [Bool.and_eq_true, Bool.not_eq_true', decide_eq_false_iff_not] at hg; exact hg.1.1
    obtain ⟨k, l, hl, hk⟩ := listN_some (set_lt9 hS 0) hs0
    have hk0 := setL_bit.1 hk
    refine ⟨k, by rw [hl]; rfl, moveL_iff.2 ⟨hb, playerB_of hT, hk0, h1, h2⟩, ?_⟩
    have hno : ¬ winL (R : Int) (C : Int) xs (T : Int) = (T : Int) := fun hh => by
      have := (winCells_some hb hS hT h1 h2).2 hh
      rw [e] at this; exact absurd this (by decide)
    have hno2 : ¬ winL (R : Int) (C : Int) (xs.set k (T : Int)) (3 - (T : Int)) = (T : Int) := fun hh => hno ((winL_open hb hS hT h1 h2).2 ⟨k, hk0, hh⟩)
    have hb3 := pos_set hb hT k
    rw [e3] at hno2 ⊢
    obtain ⟨V, hV, hV2⟩ := winL_cases hb3 hT'
    rw [hV] at hno2 ⊢
    omega
end

/-- The position behind a list of moves. -/
def behindL : List Int → List Int → Int → List Int
  | xs, [], _ => xs
  | xs, k :: l, t => behindL (xs.set k.toNat t) l (3 - t)

/-- Each move may be made, and in the end who wins has joined. -/
theorem lineF_ok {R C W : Nat} (hW : W = 1 ∨ W = 2) : ∀ (f : Nat) (xs : List Int) (T : Nat), posB (R : Int) (C : Int) xs = true → Sides (R : Int) (C : Int) R C xs → (T = 1 ∨ T = 2) → pop (setL xs 0) ≤ f → winL (R : Int) (C : Int) xs (T : Int) = (W : Int) →
    joinsL (R : Int) (C : Int) (behindL xs (lineF (R : Int) (C : Int) f xs (T : Int)) (T : Int)) (W : Int) = true := by
  intro f
  induction f with
  | zero =>
    intro xs T hb hS hT hp hw
    have hz : setL xs 0 = 0 := by
      apply Nat.eq_of_testBit_eq
      intro j
      rw [Nat.zero_testBit]
      cases e : (setL xs 0).testBit j with
      | false => rfl
      | true => have := pop_without (set_lt9 hS 0) e; omega
    rw [lineF, behindL]
    cases e1 : joinsL (R : Int) (C : Int) xs 1 with
    | true =>
      have := winL_done hb hS (P := 1) (.inl rfl) hT e1
      have : W = 1 := by omega
      subst this; exact e1
    | false =>
      cases e2 : joinsL (R : Int) (C : Int) xs 2 with
      | true =>
        have := winL_done hb hS (P := 2) (.inr rfl) hT e2
        have : W = 2 := by omega
        subst this; exact e2
      | false =>
        obtain ⟨k, _, hk⟩ := free_some hb hS e1 e2
        have := setL_bit.2 hk
        rw [hz, Nat.zero_testBit] at this; cases this
  | succ f ih =>
    intro xs T hb hS hT hp hw
    rw [lineF]
    cases hg : goB (R : Int) (C : Int) xs with
    | false =>
      rw [if_neg (by decide), behindL]
      cases e1 : joinsL (R : Int) (C : Int) xs 1 with
      | true =>
        have := winL_done hb hS (P := 1) (.inl rfl) hT e1
        have : W = 1 := by omega
        subst this; exact e1
      | false =>
        cases e2 : joinsL (R : Int) (C : Int) xs 2 with
        | true =>
          have := winL_done hb hS (P := 2) (.inr rfl) hT e2
          have : W = 2 := by omega
          subst this; exact e2
        | false => rw [(goB_iff hb hS).2 ⟨e1, e2⟩] at hg; cases hg
    | true =>
      rw [if_pos rfl, behindL]
      obtain ⟨k, hk, hm, hv⟩ := stepL_ok hb hS hT hW hg hw
      have hT' : 3 - T = 1 ∨ 3 - T = 2 := by omega
      have e3 : (3 : Int) - (T : Int) = ((3 - T : Nat) : Int) := by omega
      have hk0 := (moveL_iff.1 hm).2.2.1
      rw [hk]
      rw [e3] at hv ⊢
      refine ih (xs.set k (T : Int)) (3 - T) (pos_set hb hT k) (sides_set hb hS hT) hT' ?_ hv
      have h0 := (set_more hS hT hk0).2.1
      rw [h0]
      have := pop_without (set_lt9 hS 0) (setL_bit.2 hk0)
      omega

end Go.Proofs.YtfgjbfaapbhppaaDoor

/- The model's table of who wins: each position has a place of its own in it. No program text. -/
namespace Go.Proofs.YtfgjbfaapbhppaaDoor
open Go Go.Ip G

/-- The place of a position, from its first k cells: the same number as the model reckons. -/
def keyF (a b : Nat) : Nat → Nat
  | 0 => 0
  | k + 1 => 3 * keyF a b k + (a >>> k % 2) + 2 * (b >>> k % 2)

theorem digit_le {R C a b : Nat} (h : Pos R C a b) (k : Nat) : a >>> k % 2 + 2 * (b >>> k % 2) ≤ 2 := by
  have h1 := bit_iff a k
  have h2 := bit_iff b k
  rcases Nat.mod_two_eq_zero_or_one (a >>> k) with e1 | e1 <;> rcases Nat.mod_two_eq_zero_or_one (b >>> k) with e2 | e2
  · omega
  · omega
  · omega
  · exact (h.2.2 k (h1.1 e1) (h2.1 e2)).elim
theorem key_lt {R C a b : Nat} (h : Pos R C a b) : ∀ k, keyF a b k < 3 ^ k
  | 0 => Nat.zero_lt_one
  | k + 1 => by
    have ih := key_lt h k
    have hd := digit_le h k
    rw [keyF, Nat.pow_succ]; omega
theorem key_inj {R C a b a' b' : Nat} (h : Pos R C a b) (h' : Pos R C a' b') : ∀ k, keyF a b k = keyF a' b' k → ∀ i, i < k → a.testBit i = a'.testBit i ∧ b.testBit i = b'.testBit i
  | 0, _, i, hi => by omega
  | k + 1, he, i, hi => by
    have hd := digit_le h k
    have hd' := digit_le h' k
    rw [keyF, keyF] at he
    have e1 : keyF a b k = keyF a' b' k := by omega
    have e2 : a >>> k % 2 = a' >>> k % 2 ∧ b >>> k % 2 = b' >>> k % 2 := by
      have := Nat.mod_two_eq_zero_or_one (a >>> k); have := Nat.mod_two_eq_zero_or_one (a' >>> k); omega
    by_cases hik : i = k
    · subst hik
      have t : ∀ x y : Nat, x >>> i % 2 = y >>> i % 2 → x.testBit i = y.testBit i := fun x y e => by
        rw [Bool.eq_iff_iff, ← bit_iff, ← bit_iff, e]
      exact ⟨t _ _ e2.1, t _ _ e2.2⟩
    · exact key_inj h h' k e1 i (by omega)
theorem key_pos {R C a b a' b' : Nat} (h : Pos R C a b) (h' : Pos R C a' b') (he : keyF a b (R * C) = keyF a' b' (R * C)) : a = a' ∧ b = b' := by
  have hk := key_inj h h' _ he
  have t : ∀ x y : Nat, x < 2 ^ (R * C) → y < 2 ^ (R * C) → (∀ i, i < R * C → x.testBit i = y.testBit i) → x = y := fun x y hx hy hxy => by
    apply Nat.eq_of_testBit_eq
    intro j
    by_cases hj : j < R * C
    · exact hxy j hj
    · have e1 : x.testBit j = false := Nat.testBit_lt_two_pow (Nat.lt_of_lt_of_le hx (Nat.pow_le_pow_right (by decide) (by omega)))
      have e2 : y.testBit j = false := Nat.testBit_lt_two_pow (Nat.lt_of_lt_of_le hy (Nat.pow_le_pow_right (by decide) (by omega)))
      rw [e1, e2]
  exact ⟨t _ _ h.1 h'.1 fun i hi => (hk i hi).1, t _ _ h.2.1 h'.2.1 fun i hi => (hk i hi).2⟩

theorem pow3_le {n : Nat} (h : n ≤ 9) : 3 ^ n ≤ 19683 := Nat.pow_le_pow_right (n := 3) (by decide) h

def keyN (R C a b t : Nat) : Nat := 2 * keyF a b (R * C) + (t - 1)
/-- What the table holds: nothing, or who wins. -/
def Inv (R C : Nat) (T : List Int) : Prop := T.length = 2 * 3 ^ (R * C) ∧ ∀ a b t, Pos R C a b → (t = 1 ∨ t = 2) → T[keyN R C a b t]? = some 0 ∨ T[keyN R C a b t]? = some ((winN R C a b t : Nat) : Int)

theorem keyN_lt {R C a b t : Nat} (h : Pos R C a b) (ht : t = 1 ∨ t = 2) : keyN R C a b t < 2 * 3 ^ (R * C) := by
  have := key_lt h (R * C); unfold keyN; omega
theorem Inv.new (R C : Nat) : Inv R C (List.replicate (2 * 3 ^ (R * C)) 0) := by
  refine ⟨List.length_replicate, fun a b t h ht => .inl ?_⟩
  rw [List.getElem?_replicate, if_pos (keyN_lt h ht)]
theorem Inv.put {R C a b t : Nat} {T : List Int} (hi : Inv R C T) (h : Pos R C a b) (ht : t = 1 ∨ t = 2) : Inv R C (T.set (keyN R C a b t) ((winN R C a b t : Nat) : Int)) := by
  refine ⟨by rw [List.length_set]; exact hi.1, fun a' b' t' h' ht' => ?_⟩
  rw [List.getElem?_set]
  by_cases e : keyN R C a b t = keyN R C a' b' t'
  · right
    rw [if_pos e, if_pos (by rw [hi.1]; exact keyN_lt h ht)]
    unfold keyN at e
    have e1 : keyF a b (R * C) = keyF a' b' (R * C) := by omega
    have e2 : t = t' := by omega
    obtain ⟨rfl, rfl⟩ := key_pos h h' e1
    rw [e2]
  · rw [if_neg e]; exact hi.2 a' b' t' h' ht'
theorem Inv.get {R C a b t : Nat} {T : List Int} (hi : Inv R C T) (h : Pos R C a b) (ht : t = 1 ∨ t = 2) : ∃ hl : keyN R C a b t < T.length, T[keyN R C a b t] = 0 ∨ T[keyN R C a b t] = ((winN R C a b t : Nat) : Int) := by
  have hl : keyN R C a b t < T.length := by rw [hi.1]; exact keyN_lt h ht
  refine ⟨hl, ?_⟩
  have := hi.2 a b t h ht
  rw [List.getElem?_eq_getElem hl] at this
  exact this.imp Option.some.inj Option.some.inj

/-- A winning move among the first k cells. -/
def moveTo (R C a b t k : Nat) : Bool := (List.range k).any fun k => !(a ||| b).testBit k && decide (winN R C (putA t k a) (putB t k b) (3 - t) = t)
theorem moveTo_succ (R C a b t k : Nat) : moveTo R C a b t (k + 1) = (moveTo R C a b t k || (!(a ||| b).testBit k && decide (winN R C (putA t k a) (putB t k b) (3 - t) = t))) := by
  unfold moveTo; rw [List.range_succ, List.any_append]; simp
theorem moveTo_mono {R C a b t k : Nat} (hk : k ≤ R * C) (h : moveTo R C a b t k = true) : moveB R C a b t = true := by
  unfold moveTo at h
  rw [List.any_eq_true] at h
  obtain ⟨x, hx, hh⟩ := h
  unfold moveB
  rw [List.any_eq_true]
  exact ⟨x, List.mem_range.2 (by have := List.mem_range.1 hx; omega), hh⟩
end Go.Proofs.YtfgjbfaapbhppaaDoor

/- The model's chapter 3: what MoveOk, Played, WinnerOf, WinningCells and LinePlayed of it compute. -/
namespace Go.Proofs.YtfgjbfaapbhppaaDoor
open Go Go.Ip G

variable (g : Nat → PV) (lf n : Nat)

/-! ### the solver -/
end Go.Proofs.YtfgjbfaapbhppaaDoor

/- The model's chapter 3, on: the winning cells and the moves played on. -/
namespace Go.Proofs.YtfgjbfaapbhppaaDoor
open Go Go.Ip G

/-! ### two lists at once: one between two marks, that is written to, and one apart from it, that grows -/
def Apart (b0 b1 b2 : Nat) (h : PHeap) (q : PV) (ys : List Int) : Prop := ∃ n m, OwnB n m h q ys ∧ b0 ≤ n ∧ (m ≤ b1 ∨ b2 ≤ n) ∧ m ≤ h.length
theorem Apart.keep {b0 b1 b2 : Nat} {h h' : PHeap} {q : PV} {ys : List Int} (s : Apart b0 b1 b2 h q ys) (k : Keep h.length h h') : Apart b0 b1 b2 h' q ys := by
  obtain ⟨n, m, o, h1, h2, h3⟩ := s
  exact ⟨n, m, o.keep (k.mono h3), h1, h2, Nat.le_trans h3 k.1⟩
theorem Apart.only {b0 b1 b2 : Nat} {h h' : PHeap} {q : PV} {ys : List Int} (s : Apart b0 b1 b2 h q ys) (k : Only b1 b2 h h') : Apart b0 b1 b2 h' q ys := by
  obtain ⟨n, m, o, h1, h2, h3⟩ := s
  exact ⟨n, m, o.only k (h2.imp id id), h1, h2, by rw [k.1]; exact h3⟩
theorem Apart.sl {b0 b1 b2 : Nat} {h : PHeap} {q : PV} {ys : List Int} (s : Apart b0 b1 b2 h q ys) : OwnSl b0 h q ys := by
  obtain ⟨n, m, o, h1, h2, h3⟩ := s
  exact o.sl.mono h1

theorem OwnB.append {n m : Nat} {h : PHeap} {p : PV} {xs : List Int} (s : OwnB n m h p xs) (hn : n ≤ h.length) (x : Int) (hl : xs.length + 1 ≤ 2 ^ 36) :
    ∃ v p' h', buildSliceP Tryd.prog 23 1 [(0, .int .i64 x)] h = some v ∧ appendP Tryd.prog 23 23 p v.1 v.2 = some (p', h') ∧ OwnSl h.length h' p' (xs ++ [x]) ∧ Keep n h h' ∧
      ∀ a b r zs, OwnB a b h r zs → (b ≤ n ∨ m ≤ a) → OwnB a b h' r zs := by
  have hb : buildSliceP Tryd.prog 23 1 [(0, .int .i64 x)] h = some (.sl h.length 0 1, h ++ [.own 1 [.int .i64 x]]) := by
    simp [buildSliceP, tyElem, tySize, tyZero, repeatCells, fillP, PV.cells, setCells]
  have hsrc : srcP (h ++ [.own 1 [.int .i64 x]]) 1 (.sl h.length 0 1) = some (1, [.int .i64 x]) := by
    simp [srcP, cellsAt, PObj.get]
  rcases s with ⟨rfl, rfl⟩ | ⟨id, h1, h2, rfl, h3⟩
  · refine ⟨_, .sl (h.length + 1) 0 1, h ++ [.own 1 [.int .i64 x]] ++ [.own 1 [.int .i64 x]], hb, ?_, .inr ⟨h.length + 1, by omega, rfl, ?_⟩, ?_, ?_⟩
    · simp [appendP, tyElem, tySize, tySmall, hsrc]
    · rw [List.getElem?_append_right (by simp)]; simp
    · rw [List.append_assoc]; exact Keep.append _ _ _ hn
    · rintro a b r zs (⟨rfl, rfl⟩ | ⟨i, i1, i2, rfl, i3⟩) _
      · exact .inl ⟨rfl, rfl⟩
      · refine .inr ⟨i, i1, i2, rfl, ?_⟩
        have hi : i < h.length := (List.getElem?_eq_some_iff.1 i3).1
        rw [List.append_assoc, List.getElem?_append_left hi]; exact i3
  · have hid : id < h.length := (List.getElem?_eq_some_iff.1 h3).1
    have h3' : (h ++ [PObj.own 1 [.int .i64 x]])[id]? = some (.own 1 (xs.map (.int .i64))) := by rw [List.getElem?_append_left hid]; exact h3
    refine ⟨_, .sl (h.length + 1) 0 (xs.length + 1), ((h ++ [PObj.own 1 [.int .i64 x]]).set id .dead ++ [PObj.own 1 (xs.map (.int .i64) ++ [.int .i64 x])]), hb, ?_, .inr ⟨h.length + 1, by omega, by simp, ?_⟩, ?_, ?_⟩
    · simp [appendP, tyElem, tySize, tySmall, hsrc, h3', hl]
    · rw [List.getElem?_append_right (by simp)]; simp
    · exact ((Keep.append n h _ hn).trans (Keep.set n _ id .dead h1)).trans (Keep.append _ _ _ (by simp; omega))
    · rintro a b r zs (⟨rfl, rfl⟩ | ⟨i, i1, i2, rfl, i3⟩) hd
      · exact .inl ⟨rfl, rfl⟩
      · refine .inr ⟨i, i1, i2, rfl, ?_⟩
        have hi : i < h.length := (List.getElem?_eq_some_iff.1 i3).1
        rw [List.getElem?_append_left (by simp; omega), List.getElem?_set_ne (by omega), List.getElem?_append_left hi]; exact i3

section
variable {Q : PV → PHeap → Prop} {h : PHeap} {p r : PV} {xs zs : List Int} {b0 b1 b2 : Nat}
theorem wapA (s : Apart b0 b1 b2 h p xs) (o : OwnB b1 b2 h r zs) (hb0 : b0 ≤ h.length) (hb2 : b2 ≤ h.length) {x : Int} (hl : xs.length + 1 ≤ 2 ^ 36) {F : PV × PHeap → Res}
    (hf : ∀ p' h', Apart b0 b1 b2 h' p' (xs ++ [x]) → OwnB b1 b2 h' r zs → Keep b0 h h' → W (F (p', h')) Q) :
    W ((buildSliceP Tryd.prog 23 1 [(0, .int .i64 x)] h).bind fun v => (appendP Tryd.prog 23 23 p v.1 v.2).bind F) Q := by
  obtain ⟨n, m, on, h1, h2, h3⟩ := s
  rcases Nat.le_total n h.length with hn | hn
  · obtain ⟨v, p', h', e1, e2, o', k, fr⟩ := on.append hn x hl
    exact wbd e1 (wbd e2 (hf p' h' ⟨h.length, h'.length, o'.b, hb0, .inr hb2, Nat.le_refl _⟩ (fr _ _ _ _ o (by omega)) (k.mono h1)))
  · have o0 : OwnB h.length m h p xs := by
      rcases on with on | ⟨id, i1, i2, i3, i4⟩
      · exact .inl on
      · have := (List.getElem?_eq_some_iff.1 i4).1; omega
    obtain ⟨v, p', h', e1, e2, o', k, fr⟩ := o0.append (Nat.le_refl _) x hl
    exact wbd e1 (wbd e2 (hf p' h' ⟨h.length, h'.length, o'.b, hb0, .inr hb2, Nat.le_refl _⟩ (fr _ _ _ _ o (by omega)) (k.mono hb0)))
theorem wstB (s : OwnB b1 b2 h p xs) {i : Nat} (hi : i < xs.length) {x : Int} {F : PV → PHeap → Res}
    (hf : ∀ h', OwnB b1 b2 h' p (xs.set i x) → Only b1 b2 h h' → ∀ a, W (F a h') Q) :
    W ((indexAddrP Tryd.prog 23 p (.int .i64 (i : Int))).bind fun a => (storeP Tryd.prog 3 a (.int .i64 x) h).bind fun h' => F a h') Q := by
  obtain ⟨a, h', e1, e2, o, k⟩ := s.store hi x
  refine wbd e1 ?_
  show W ((storeP Tryd.prog 3 a (.int .i64 x) h).bind fun h' => F a h') Q
  exact wbd e2 (hf h' o k a)
/-- The first element is read. -/
theorem wat0 (s : IntSl .i64 h p xs) (hi : 0 < xs.length) {f : PV → Res} (hf : ∀ a, loadP Tryd.prog 3 a h = some (.int .i64 xs[0]) → W (f a) Q) : W ((indexAddrP Tryd.prog 23 p (.int .i64 0)).bind f) Q := wat s hi hf
end

/-! ### winning cells -/
def winFrom (r c : Int) (xs : List Int) (pl : Int) (k m : Nat) : List Int := ((List.range' k m).filter (winsB r c xs pl)).map fun k : Nat => (k : Int)
theorem winFrom_all (r c : Int) (xs : List Int) (pl : Int) : winFrom r c xs pl 0 xs.length = winCellsL r c xs pl := by unfold winFrom winCellsL; rw [List.range_eq_range']
theorem winFrom_succ (r c : Int) (xs : List Int) (pl : Int) (k m : Nat) : winFrom r c xs pl k (m + 1) = if winsB r c xs pl k = true then (k : Int) :: winFrom r c xs pl (k + 1) m else winFrom r c xs pl (k + 1) m := by
  unfold winFrom
  rw [List.range'_succ, List.filter_cons]
  split <;> rfl

variable (g : Nat → PV) (lf n : Nat)

/-! ### played on -/
theorem goB_false {R C : Nat} {zs : List Int} {f : Nat} {T : Int} (h : goB (R : Int) (C : Int) zs = false) : lineF (R : Int) (C : Int) f zs T = [] := by
  cases f with
  | zero => rfl
  | succ f => rw [lineF, h]; rfl

end Go.Proofs.YtfgjbfaapbhppaaDoor

/- Chapter 3's laws over what the program's functions are asked to compute: the draws, and the exact laws. -/
namespace Go.Proofs.YtfgjbfaapbhppaaDoor
open Go Go.Ip G

def WinnerOk (g : Nat → PV) (lf : Nat) : Prop := ∀ (N : Nat), 40 ≤ N → ∀ (r c t : Int) {xs : List Int} {p : PV} {h : PHeap}, TabOk g h → IntSl .i64 h p xs → xs.length ≤ 2 ^ 35 → xs.length < lf →
  ∃ h', CL g lf N fn_impl_WinnerOf [.int .i64 r, .int .i64 c, p, .int .i64 t] h = some (.int .i64 (winL r c xs t), h') ∧ Keep h.length h h'
theorem W.yes {x : Res} (hx : W x fun v _ => v = .bool true) : ∃ h', x = some (.bool true, h') := by
  obtain ⟨_, h', e, rfl⟩ := hx; exact ⟨h', e⟩
section
variable {Q : PV → PHeap → Prop} {b : Bool} {f : PV → Res}
theorem wneqBB (hf : W (f (.bool false)) Q) : W ((binP Tryd.prog .neq 4 (.bool b) (.bool b)).bind f) Q := wbd (by rw [neqB]; simp) hf
theorem weqlBB (hf : W (f (.bool true)) Q) : W ((binP Tryd.prog .eql 4 (.bool b) (.bool b)).bind f) Q := wbd (by rw [eqlB]; simp) hf
/-- A call, with the heap's mark kept. -/
theorem wcv {x : Res} {v : PV} {m : Nat} {h0 h : PHeap} (c : ∃ h', x = some (v, h') ∧ Keep h.length h h') (k : Keep m h0 h) (hm : m ≤ h0.length) {f : PV × PHeap → Res} (hf : ∀ h', Keep m h0 h' → W (f (v, h')) Q) : W (x.bind f) Q := by
  obtain ⟨h', e, k'⟩ := c
  exact wbd e (hf h' (k.trans (k'.mono (Nat.le_trans hm k.1))))
theorem wcl {x : Res} {L : List Int} {m : Nat} {h0 h : PHeap} (c : ∃ q h', x = some (q, h') ∧ OwnSl h.length h' q L ∧ Keep h.length h h') (k : Keep m h0 h) (hm : m ≤ h0.length) {f : PV × PHeap → Res} (hf : ∀ q h', OwnSl h.length h' q L → Fix h'.length h' q L → Keep m h0 h' → W (f (q, h')) Q) : W (x.bind f) Q := by
  obtain ⟨q, h', e, o, k'⟩ := c
  exact wbd e (hf q h' o o.int.fix (k.trans (k'.mono (Nat.le_trans hm k.1))))
end
theorem Fix.re {m : Nat} {h h' : PHeap} {p : PV} {xs : List Int} (s : Fix m h p xs) (k : Keep m h h') (hm : m ≤ h.length) : Fix h'.length h' p xs := fun h2 k2 => s h2 (k.trans (k2.mono (Nat.le_trans hm k.1)))
theorem tabF {g : Nat → PV} {h h1 : PHeap} (t : TabOk g h) (k : Keep h.length h h1) : ∀ h2, Keep h1.length h1 h2 → TabOk g h2 := fun _ k2 => (t.keep k).keep k2

variable (g : Nat → PV) (lf n : Nat)

/-! ### the draws -/
theorem sided_W {h : PHeap} {id m : Nat} (N : Nat) (hN : 5 ≤ N) (k : Int) (hr : Rd h id m) (hm : m ≤ 700000) (hk : k ≤ 400000) (hk0 : 1 ≤ k) (hlf : 20 < lf) :
    ∃ (r c : Int) (q : PV) (xs : List Int) (pl : Int) (h' : PHeap), CL g lf N fn_spec_l20Sided [.ptr id 0, .int .i64 k] h = some (.tup [.int .i64 r, .int .i64 c, q, .int .i64 pl], h') ∧ Rd h' id (m + 32) ∧ Keep id h h' ∧ OwnSl (id + 1) h' q xs ∧ xs.length ≤ 10 ∧ 1 ≤ pl ∧ pl ≤ 4 := by
  obtain ⟨n, rfl⟩ : ∃ n, N = n + 1 := ⟨N - 1, by omega⟩
  rw [spec_l20Sided.call_eq]
  obtain ⟨r, c, q, xs, h1, e1, r1, k1, o1, hl, hrc⟩ := position_calls g lf n (by omega) k hr (by omega) hk hk0 hlf
  obtain ⟨v1, h2, e2, r2, o2, a1, a2, _⟩ := pick_calls g lf n (by omega) 2 r1 (by omega) (by omega)
  obtain ⟨v2, h3, e3, r3, o3, b1, b2, _⟩ := pick_calls g lf n (by omega) 60 r2 (by omega) (by omega)
  have a2' := a2 (by omega)
  have b2' := b2 (by omega)
  have hq := tdiv_range b1 (show (1 : Int) ≤ 59 by decide)
  have hq1 : v2.tdiv 59 ≤ 1 := by
    obtain ⟨V, rfl⟩ := Int.eq_ofNat_of_zero_le b1
    have : ((V : Int).tdiv 59) = ((V / 59 : Nat) : Int) := rfl
    rw [this]; omega
  have f1 : binP Tryd.prog .add 3 (.int .i64 1) (.int .i64 v1) = some (.int .i64 (1 + v1)) := by rw [bin_add, wr (by omega)]
  have f2 : binP Tryd.prog .quo 3 (.int .i64 v2) (.int .i64 59) = some (.int .i64 (v2.tdiv 59)) := by rw [bin_quo (by decide), wr (by omega)]
  have f3 : binP Tryd.prog .mul 3 (.int .i64 (v2.tdiv 59)) (.int .i64 2) = some (.int .i64 (v2.tdiv 59 * 2)) := by rw [bin_mul, wr (by omega)]
  have f4 : binP Tryd.prog .add 3 (.int .i64 (1 + v1)) (.int .i64 (v2.tdiv 59 * 2)) = some (.int .i64 (1 + v1 + v2.tdiv 59 * 2)) := by rw [bin_add, wr (by omega)]
  have ho := (o1.keepOnly o2 (by omega)).keepOnly o3 (by omega)
  refine ⟨r, c, q, xs, 1 + v1 + v2.tdiv 59 * 2, h3, ?_, r3.mono (by omega), (k1.trans o2.keep).trans o3.keep, ho, hl, by omega, by omega⟩
  unfold spec_l20Sided.main
  exact bd e1 (bd extract_tup (bd extract_tup (bd extract_tup (bd e2 (bd f1 (bd e3 (bd f2 (bd f3 (bd f4 (bd res_int (bd res_int (bd o1.res (bd res_int rfl)))))))))))))

theorem few_W {h : PHeap} {id m : Nat} (N : Nat) (hN : 6 ≤ N) (k : Int) (hr : Rd h id m) (hm : m ≤ 600000) (hlf : 20 < lf) :
    W (CL g lf N fn_spec_l20Few [.ptr id 0, .int .i64 k] h) fun v h' => ∃ (r c : Int) (q : PV) (xs : List Int) (pl : Int), v = .tup [.int .i64 r, .int .i64 c, q, .int .i64 pl] ∧ Keep id h h' ∧ OwnSl (id + 1) h' q xs ∧ xs.length ≤ 10 ∧ 1 ≤ pl ∧ pl ≤ 4 := by
  obtain ⟨n, rfl⟩ : ∃ n, N = n + 1 := ⟨N - 1, by omega⟩
  obtain ⟨r, c, q, xs, pl, h1, e1, r1, k1, o1, hl, hp1, hp2⟩ := sided_W g lf n (by omega) 14 hr (by omega) (by omega) (by omega) hlf
  rw [spec_l20Few.call_eq]
  unfold spec_l20Few.main
  simp only [env_C, env_lf, env_extract]
  repeat (first | with_reducible refine wx0 ?_ | with_reducible refine wx1 ?_ | with_reducible refine wx2 ?_ | with_reducible refine wx3 ?_ | with_reducible refine wbd (by assumption) ?_ | dsimp only)
  refine loopW (fun m' s => ∃ (i fr : Nat) (zs : List Int) (h2 : PHeap), s = spec_l20Few.st0 (.ptr id 0) (.int .i64 k) (.int .i64 r) (.int .i64 c) q (.int .i64 pl) (.int .i64 (fr : Int)) (.int .i64 (i : Int)) h2 ∧ i + m' = xs.length ∧ fr ≤ i ∧ zs.length = xs.length ∧ Rd h2 id (m + 32 + i) ∧ OwnSl (id + 1) h2 q zs ∧ Keep id h h2) ?_ lf xs.length _ (by omega) ⟨0, 0, xs, h1, rfl, by omega, Nat.le_refl _, rfl, r1, o1, k1⟩
  rintro n1 m1 s ⟨i, fr, zs, h2, rfl, him, hfr, hz, r2, o2, k2⟩ next
  rw [spec_l20Few.body0_eq]
  unfold spec_l20Few.body0
  simp only [env_C, env_load, env_store, env_bin, env_indexAddr, env_len]
  have hzl := wlen (Q := fun _ _ => True) o2.int (f := fun _ => some (.nilsl, [])) ⟨_, _, rfl, trivial⟩
  clear hzl
  have hlen := o2.int.len'
  rw [hz] at hlen
  cases m1 with
  | zero =>
    repeat (first | with_reducible refine wF ?_ | with_reducible refine wrI ?_ | with_reducible refine wbd (by assumption) ?_ | with_reducible refine wlssF (by omega) ?_ | with_reducible refine wresO (by assumption) ?_ | rw [kLoop_exit] | rw [spec_l20Few.after0_se0_0_1_8_9_10_11_12_13_24])
    exact W.ret ⟨r, c, q, zs, pl, rfl, k2, o2, by omega, hp1, hp2⟩
  | succ m1 =>
    have hi : i < zs.length := by omega
    repeat (first | with_reducible refine wT ?_ | with_reducible refine wbd (by assumption) ?_ | (with_reducible refine wat o2.int hi fun a hl => ?_) | with_reducible refine wlssT (by omega) ?_)
    refine weql (fun e => ?_) (fun e => ?_)
    · repeat (first | with_reducible refine wT ?_ | with_reducible refine wadd1 (by omega) ?_)
      refine wgtr (fun e2 => ?_) (fun e2 => ?_)
      · obtain ⟨v, h3, e3, r3, ok3, a1, a2, _⟩ := pick_calls g lf n (by omega) 2 r2 (by omega) (by omega)
        have a2' := a2 (by omega)
        have o3 := o2.keepOnly ok3 (by omega)
        repeat (first | with_reducible refine wT ?_ | with_reducible refine wbd (by assumption) ?_ | (refine wst o3 hi fun h4 o4 k4 l4 a4 e4 => ?_) | with_reducible refine wadd1 (by omega) ?_)
        exact next _ _ (Nat.lt_succ_self m1) ⟨i + 1, fr + 1, _, h4, rfl, by omega, by omega, by rw [List.length_set]; exact hz, (r3.keep k4 (by omega)).mono (by omega), o4, (k2.trans ok3.keep).trans (k4.mono (by omega))⟩
      · repeat (first | with_reducible refine wF ?_ | with_reducible refine wadd1 (by omega) ?_)
        exact next _ _ (Nat.lt_succ_self m1) ⟨i + 1, fr + 1, zs, h2, rfl, by omega, by omega, hz, r2.mono (by omega), o2, k2⟩
    · repeat (first | with_reducible refine wF ?_ | with_reducible refine wadd1 (by omega) ?_)
      exact next _ _ (Nat.lt_succ_self m1) ⟨i + 1, fr, zs, h2, rfl, by omega, by omega, hz, r2.mono (by omega), o2, k2⟩

/-- Of two functions that make one list of a position both sides of an exact law come out the same: what the law looks at, in its order. -/
theorem exact_chain3 {xs L : List Int} {p : PV} {h : PHeap} (N : Nat) (hN : 1 ≤ N) (fS fI : PV → PHeap → PV → PHeap → Prop)
    (hS : ∀ q hh, Keep h.length h hh → IntSl .i64 hh q xs → ∃ w h', fS q hh w h' ∧ OwnSl hh.length h' w L ∧ Keep hh.length hh h')
    (hI : ∀ q hh, Keep h.length h hh → IntSl .i64 hh q xs → ∃ w h', fI q hh w h' ∧ OwnSl hh.length h' w L ∧ Keep hh.length hh h')
    (hp : IntSl .i64 h p xs) (hl : xs.length ≤ 1048576) (hL : L.length ≤ 1048576) (hf : 1048576 < lf) :
    ∃ q1 h1 w h2 q3 h3 g0 h4 y h5 h6 h7 q8 h8 g1 h9, CL g lf N fn_laws_toIntS [p] h = some (q1, h1) ∧ fS q1 h1 w h2 ∧ CL g lf N fn_laws_toIntS [p] h2 = some (q3, h3) ∧ fI q3 h3 g0 h4 ∧
      CL g lf N fn_laws_eqIntS [g0, w] h4 = some (.bool true, h4) ∧ CL g lf N fn_laws_toIntS [p] h4 = some (y, h5) ∧ CL g lf N fn_laws_eqIntS [q3, y] h5 = some (.bool true, h5) ∧
      CL g lf N fn_laws_markIntS [q3, .int .i64 1] h5 = some (.int .i64 (1 + xs.length), h6) ∧ CL g lf N fn_laws_eqIntS [g0, w] h6 = some (.bool true, h6) ∧
      CL g lf N fn_laws_markIntS [g0, .int .i64 1] h6 = some (.int .i64 (1 + L.length), h7) ∧ CL g lf N fn_laws_heldIntS [g0, .int .i64 1] h7 = some (.int .i64 (1 + L.length), h7) ∧
      CL g lf N fn_laws_toIntS [p] h7 = some (q8, h8) ∧ fI q8 h8 g1 h9 ∧ CL g lf N fn_laws_eqIntS [g1, w] h9 = some (.bool true, h9) ∧ CL g lf N fn_laws_heldIntS [g0, .int .i64 1] h9 = some (.int .i64 (1 + L.length), h9) := by
  obtain ⟨n, rfl⟩ : ∃ n, N = n + 1 := ⟨N - 1, by omega⟩
  obtain ⟨q1, h1, e1, o1, k1⟩ := toIntS_calls g lf (n + 1) (by omega) hp (by omega) (by omega)
  obtain ⟨w, h2, e2, ow, k2⟩ := hS q1 h1 k1 o1.int
  have K2 : Keep h.length h h2 := k1.trans (k2.mono k1.1)
  obtain ⟨q3, h3, e3, o3, k3⟩ := toIntS_calls g lf (n + 1) (by omega) (hp.keep K2) (by omega) (by omega)
  have K3 : Keep h.length h h3 := K2.trans (k3.mono K2.1)
  obtain ⟨g0, h4, e4, og, k4⟩ := hI q3 h3 K3 o3.int
  have K4 : Keep h.length h h4 := K3.trans (k4.mono K3.1)
  obtain ⟨y, h5, e5, oy, k5⟩ := toIntS_calls g lf (n + 1) (by omega) (hp.keep K4) (by omega) (by omega)
  have K5 : Keep h.length h h5 := K4.trans (k5.mono K4.1)
  have w2 := ow.b
  have w3 := w2.keep k3
  have w4 := w3.keep (k4.mono k3.1)
  have w5 := w4.keep (k5.mono (Nat.le_trans k3.1 k4.1))
  have x3 := o3.b
  have x4 := x3.keep k4
  have x5 := x4.keep (k5.mono k4.1)
  have g4 := og.b
  have g5 := g4.keep k5
  have s4 := eqIntS_calls g lf n og.int w4.int (by omega) (by omega)
  have s5 := eqIntS_calls g lf n x5.int oy.int (by omega) (by omega)
  obtain ⟨h6, e6, x6, t6⟩ := markIntS_calls g lf (n + 1) (by omega) x5 (by omega) (by omega)
  have K6 : Keep h.length h h6 := K5.trans (t6.keep.mono (K2.1))
  have w6 := w5.only t6 (.inl (Nat.le_refl _))
  have g6 := g5.only t6 (.inr (Nat.le_refl _))
  have s6 := eqIntS_calls g lf n g6.int w6.int (by omega) (by omega)
  obtain ⟨h7, e7, g7, t7⟩ := markIntS_calls g lf (n + 1) (by omega) g6 (by omega) (by omega)
  have K7 : Keep h.length h h7 := K6.trans (t7.keep.mono (K3.1))
  have w7 := w6.only t7 (.inl k3.1)
  have s7 := heldIntS_calls g lf (n + 1) (by omega) g7.int (by omega) (by omega)
  obtain ⟨q8, h8, e8, o8, k8⟩ := toIntS_calls g lf (n + 1) (by omega) (hp.keep K7) (by omega) (by omega)
  obtain ⟨g1, h9, e9, o9, k9⟩ := hI q8 h8 (K7.trans (k8.mono K7.1)) o8.int
  have len7 : h4.length ≤ h7.length := by rw [t7.1, t6.1]; exact k5.1
  have len2 : h2.length ≤ h7.length := Nat.le_trans (Nat.le_trans k3.1 k4.1) len7
  have w8 := w7.keep (k8.mono len2)
  have w9 := w8.keep (k9.mono (Nat.le_trans len2 k8.1))
  have g8 := g7.keep (k8.mono len7)
  have g9 := g8.keep (k9.mono (Nat.le_trans len7 k8.1))
  have s9 := eqIntS_calls g lf n o9.int w9.int (by omega) (by omega)
  have s10 := heldIntS_calls g lf (n + 1) (by omega) g9.int (by omega) (by omega)
  simp only [decide_true] at s4 s5 s6 s9
  exact ⟨q1, h1, w, h2, q3, h3, g0, h4, y, h5, h6, h7, q8, h8, g1, h9, e1, e2, e3, e4, s4, e5, s5, e6, s6, e7, s7, e8, e9, s9, s10⟩



end Go.Proofs.YtfgjbfaapbhppaaDoor

/- The laws of chapter 3 over what the program's functions are asked to compute: promises 16, 17, 18 and 21. -/
namespace Go.Proofs.YtfgjbfaapbhppaaDoor
open Go Go.Ip G

theorem moveL_swap {r c : Int} {xs : List Int} {k pl : Int} (h1 : 1 ≤ pl) (h2 : pl ≤ 2) : moveL r c xs k (3 - pl) = moveL r c xs k pl := by
  unfold moveL
  rw [show playerB (3 - pl) = true by unfold playerB; exact decide_eq_true (by omega), show playerB pl = true by unfold playerB; exact decide_eq_true (by omega)]
theorem moveL_joins {r c : Int} {xs : List Int} {k pl : Int} (h : moveL r c xs k pl = true) {w : Int} (h1 : 1 ≤ w) (h2 : w ≤ 2) : joinsL r c xs w = false := by
  obtain ⟨K, rfl, _⟩ := moveL_cell h
  have := moveL_iff.1 h
  have : w = 1 ∨ w = 2 := by omega
  rcases this with rfl | rfl
  · exact (moveL_iff.1 h).2.2.2.1
  · exact (moveL_iff.1 h).2.2.2.2
theorem count_set {xs : List Int} {k : Nat} {w : Int} (hk : xs[k]? = some 0) (hw : w ≠ 0) : (xs.set k w).count 0 + 1 = xs.count 0 := by
  have hkl : k < xs.length := (List.getElem?_eq_some_iff.1 hk).1
  have hx : xs[k] = 0 := by rw [List.getElem?_eq_getElem hkl] at hk; exact Option.some.inj hk
  have hmem : 0 < xs.count 0 := List.count_pos_iff.2 (hx ▸ List.getElem_mem hkl)
  rw [List.count_set hkl, hx]
  simp [hw]
  omega

variable (g : Nat → PV) (lf n : Nat)

end Go.Proofs.YtfgjbfaapbhppaaDoor

/- The laws of chapter 3 over what the program's functions are asked to compute: promises 18, 19, 20 and 22. -/
namespace Go.Proofs.YtfgjbfaapbhppaaDoor
open Go Go.Ip G

theorem Fix.get {b : Nat} {h h' : PHeap} {p : PV} {xs : List Int} (s : Fix b h p xs) (k : Keep b h h') : IntSl .i64 h' p xs := s h' k
theorem sorted_get {L : List Int} (h : L.Pairwise (· < ·)) : ∀ i (hi : i + 1 < L.length), L[i] < L[i + 1] := fun i hi => List.pairwise_iff_getElem.1 h i (i + 1) (by omega) hi (by omega)
theorem wins_in {r c : Int} {xs : List Int} {pl : Int} {k : Nat} : decide ((k : Int) ∈ winCellsL r c xs pl) = winsB r c xs pl k := by
  rw [Bool.eq_iff_iff, decide_eq_true_iff, winCells_mem]
  constructor
  · rintro ⟨j, hj, hw⟩
    have : k = j := by omega
    rw [this]; exact hw
  · intro h; exact ⟨k, rfl, h⟩

variable (g : Nat → PV) (lf n : Nat)

end Go.Proofs.YtfgjbfaapbhppaaDoor

/- The boards that the model draws for chapters 4 and 5, and the draws. -/
namespace Go.Proofs.YtfgjbfaapbhppaaDoor
open Go Go.Ip Go.RowKit G

theorem lit12 (h : PHeap) (a0 a1 a2 a3 a4 a5 a6 a7 a8 a9 a10 a11 : Nat) : buildSliceP Tryd.prog 82 12 [(0, .sl a0 0 2), (1, .sl a1 0 2), (2, .sl a2 0 2), (3, .sl a3 0 2), (4, .sl a4 0 2), (5, .sl a5 0 2), (6, .sl a6 0 2), (7, .sl a7 0 2), (8, .sl a8 0 2), (9, .sl a9 0 2), (10, .sl a10 0 2), (11, .sl a11 0 2)] h = some (.sl h.length 0 12, h ++ [.own 1 [.sl a0 0 2, .sl a1 0 2, .sl a2 0 2, .sl a3 0 2, .sl a4 0 2, .sl a5 0 2, .sl a6 0 2, .sl a7 0 2, .sl a8 0 2, .sl a9 0 2, .sl a10 0 2, .sl a11 0 2]]) := by kernel_rfl
theorem lit10 (h : PHeap) (a0 a1 a2 a3 a4 a5 a6 a7 a8 a9 : Nat) : buildSliceP Tryd.prog 82 10 [(0, .sl a0 0 2), (1, .sl a1 0 2), (2, .sl a2 0 2), (3, .sl a3 0 2), (4, .sl a4 0 2), (5, .sl a5 0 2), (6, .sl a6 0 2), (7, .sl a7 0 2), (8, .sl a8 0 2), (9, .sl a9 0 2)] h = some (.sl h.length 0 10, h ++ [.own 1 [.sl a0 0 2, .sl a1 0 2, .sl a2 0 2, .sl a3 0 2, .sl a4 0 2, .sl a5 0 2, .sl a6 0 2, .sl a7 0 2, .sl a8 0 2, .sl a9 0 2]]) := by kernel_rfl

def smallObjs (L : Nat) : List PObj := [.own 1 [.int .i64 1, .int .i64 1], .own 1 [.int .i64 1, .int .i64 2], .own 1 [.int .i64 2, .int .i64 1], .own 1 [.int .i64 2, .int .i64 2], .own 1 [.int .i64 2, .int .i64 3], .own 1 [.int .i64 3, .int .i64 2], .own 1 [.int .i64 1, .int .i64 3], .own 1 [.int .i64 1, .int .i64 4], .own 1 [.int .i64 4, .int .i64 1], .own 1 [.int .i64 2, .int .i64 2], .own 1 [.int .i64 0, .int .i64 1], .own 1 [.int .i64 3, .int .i64 4]] ++ [.own 1 [.sl (L + 0) 0 2, .sl (L + 1) 0 2, .sl (L + 2) 0 2, .sl (L + 3) 0 2, .sl (L + 4) 0 2, .sl (L + 5) 0 2, .sl (L + 6) 0 2, .sl (L + 7) 0 2, .sl (L + 8) 0 2, .sl (L + 9) 0 2, .sl (L + 10) 0 2, .sl (L + 11) 0 2]]

/-- The row v of the table, in whatever heap that holds the table still. -/
theorem small_row (h h' : PHeap) (id : Nat) (hid : id < h.length) (hk : KeepX id (h.length + 13) (h ++ smallObjs h.length) h') (v : Nat) (hv : v < 12) :
    ∃ r c, loadP Tryd.prog 23 (.ptr (h.length + 12) (0 + v)) h' = some (.sl (h.length + v) 0 2) ∧ cellsAt h' (h.length + v) = [.int .i64 r, .int .i64 c] ∧ -1 ≤ r ∧ r ≤ 5 ∧ -1 ≤ c ∧ c ≤ 5 := by
  have hb : h'[h.length + 12]? = some (.own 1 [.sl (h.length + 0) 0 2, .sl (h.length + 1) 0 2, .sl (h.length + 2) 0 2, .sl (h.length + 3) 0 2, .sl (h.length + 4) 0 2, .sl (h.length + 5) 0 2, .sl (h.length + 6) 0 2, .sl (h.length + 7) 0 2, .sl (h.length + 8) 0 2, .sl (h.length + 9) 0 2, .sl (h.length + 10) 0 2, .sl (h.length + 11) 0 2]) := by
    rw [hk.2 _ (by omega) (by omega), List.getElem?_append_right (by omega), Nat.add_sub_cancel_left]; rfl
  have hs : ∀ j, j < 12 → h'[h.length + j]? = (smallObjs h.length)[j]? := fun j hj => by
    rw [hk.2 _ (by omega) (by omega), List.getElem?_append_right (by omega), Nat.add_sub_cancel_left]
  have hrow := hs v (by omega)
  simp only [loadP, tyBoxAgg, cellsAt, hb, hrow]
  have : v = 0 ∨ v = 1 ∨ v = 2 ∨ v = 3 ∨ v = 4 ∨ v = 5 ∨ v = 6 ∨ v = 7 ∨ v = 8 ∨ v = 9 ∨ v = 10 ∨ v = 11 := by omega
  rcases this with rfl | rfl | rfl | rfl | rfl | rfl | rfl | rfl | rfl | rfl | rfl | rfl <;> exact ⟨_, _, rfl, rfl, by omega, by omega, by omega, by omega⟩

def wideObjs (L : Nat) : List PObj := [.own 1 [.int .i64 1, .int .i64 2], .own 1 [.int .i64 2, .int .i64 3], .own 1 [.int .i64 2, .int .i64 4], .own 1 [.int .i64 1, .int .i64 3], .own 1 [.int .i64 1, .int .i64 4], .own 1 [.int .i64 2, .int .i64 3], .own 1 [.int .i64 2, .int .i64 4], .own 1 [.int .i64 2, .int .i64 2], .own 1 [.int .i64 3, .int .i64 2], .own 1 [.int .i64 3, .int .i64 4]] ++ [.own 1 [.sl (L + 0) 0 2, .sl (L + 1) 0 2, .sl (L + 2) 0 2, .sl (L + 3) 0 2, .sl (L + 4) 0 2, .sl (L + 5) 0 2, .sl (L + 6) 0 2, .sl (L + 7) 0 2, .sl (L + 8) 0 2, .sl (L + 9) 0 2]]

/-- The row v of the table, in whatever heap that holds the table still. -/
theorem wide_row (h h' : PHeap) (id : Nat) (hid : id < h.length) (hk : KeepX id (h.length + 11) (h ++ wideObjs h.length) h') (v : Nat) (hv : v < 10) :
    ∃ r c, loadP Tryd.prog 23 (.ptr (h.length + 10) (0 + v)) h' = some (.sl (h.length + v) 0 2) ∧ cellsAt h' (h.length + v) = [.int .i64 r, .int .i64 c] ∧ -1 ≤ r ∧ r ≤ 5 ∧ -1 ≤ c ∧ c ≤ 5 := by
  have hb : h'[h.length + 10]? = some (.own 1 [.sl (h.length + 0) 0 2, .sl (h.length + 1) 0 2, .sl (h.length + 2) 0 2, .sl (h.length + 3) 0 2, .sl (h.length + 4) 0 2, .sl (h.length + 5) 0 2, .sl (h.length + 6) 0 2, .sl (h.length + 7) 0 2, .sl (h.length + 8) 0 2, .sl (h.length + 9) 0 2]) := by
    rw [hk.2 _ (by omega) (by omega), List.getElem?_append_right (by omega), Nat.add_sub_cancel_left]; rfl
  have hs : ∀ j, j < 10 → h'[h.length + j]? = (wideObjs h.length)[j]? := fun j hj => by
    rw [hk.2 _ (by omega) (by omega), List.getElem?_append_right (by omega), Nat.add_sub_cancel_left]
  have hrow := hs v (by omega)
  simp only [loadP, tyBoxAgg, cellsAt, hb, hrow]
  have : v = 0 ∨ v = 1 ∨ v = 2 ∨ v = 3 ∨ v = 4 ∨ v = 5 ∨ v = 6 ∨ v = 7 ∨ v = 8 ∨ v = 9 := by omega
  rcases this with rfl | rfl | rfl | rfl | rfl | rfl | rfl | rfl | rfl | rfl <;> exact ⟨_, _, rfl, rfl, by omega, by omega, by omega, by omega⟩

variable (g : Nat → PV) (lf n : Nat)

theorem few2_W {h : PHeap} {id m : Nat} (N : Nat) (hN : 6 ≤ N) (k : Int) (hr : Rd h id m) (hm : m ≤ 600000) (hlf : 20 < lf) :
    W (CL g lf N fn_spec_l20Few [.ptr id 0, .int .i64 k] h) fun v h' => ∃ (r c : Int) (q : PV) (xs : List Int) (pl : Int), v = .tup [.int .i64 r, .int .i64 c, q, .int .i64 pl] ∧ Keep id h h' ∧ OwnSl (id + 1) h' q xs ∧ xs.length ≤ 10 ∧ 1 ≤ pl ∧ pl ≤ 4 ∧ Rd h' id (m + 50) ∧ (0 ≤ k → (xs.count 0 : Int) ≤ k) := by
  obtain ⟨n, rfl⟩ : ∃ n, N = n + 1 := ⟨N - 1, by omega⟩
  obtain ⟨r, c, q, xs, pl, h1, e1, r1, k1, o1, hl, hp1, hp2⟩ := sided_W g lf n (by omega) 14 hr (by omega) (by omega) (by omega) hlf
  rw [spec_l20Few.call_eq]
  unfold spec_l20Few.main
  simp only [env_C, env_lf, env_extract]
  repeat (first | with_reducible refine wx0 ?_ | with_reducible refine wx1 ?_ | with_reducible refine wx2 ?_ | with_reducible refine wx3 ?_ | with_reducible refine wbd (by assumption) ?_ | dsimp only)
  refine loopW (fun m' s => ∃ (i fr : Nat) (zs : List Int) (h2 : PHeap), s = spec_l20Few.st0 (.ptr id 0) (.int .i64 k) (.int .i64 r) (.int .i64 c) q (.int .i64 pl) (.int .i64 (fr : Int)) (.int .i64 (i : Int)) h2 ∧ i + m' = xs.length ∧ fr ≤ i ∧ zs.length = xs.length ∧ Rd h2 id (m + 32 + i) ∧ OwnSl (id + 1) h2 q zs ∧ Keep id h h2 ∧ (zs.take i).count 0 ≤ fr ∧ (0 ≤ k → ((zs.take i).count 0 : Int) ≤ k)) ?_ lf xs.length _ (by omega) ⟨0, 0, xs, h1, rfl, by omega, Nat.le_refl _, rfl, r1, o1, k1, by simp, fun hk => by simpa using hk⟩
  rintro n1 m1 s ⟨i, fr, zs, h2, rfl, him, hfr, hz, r2, o2, k2, hc1, hc2⟩ next
  rw [spec_l20Few.body0_eq]
  unfold spec_l20Few.body0
  simp only [env_C, env_load, env_store, env_bin, env_indexAddr, env_len]
  have hzl := wlen (Q := fun _ _ => True) o2.int (f := fun _ => some (.nilsl, [])) ⟨_, _, rfl, trivial⟩
  clear hzl
  have hlen := o2.int.len'
  rw [hz] at hlen
  cases m1 with
  | zero =>
    repeat (first | with_reducible refine wF ?_ | with_reducible refine wrI ?_ | with_reducible refine wbd (by assumption) ?_ | with_reducible refine wlssF (by omega) ?_ | with_reducible refine wresO (by assumption) ?_ | rw [kLoop_exit] | rw [spec_l20Few.after0_se0_0_1_8_9_10_11_12_13_24])
    refine W.ret ⟨r, c, q, zs, pl, rfl, k2, o2, by omega, hp1, hp2, r2.mono (by omega), fun hk => ?_⟩
    have := hc2 hk
    rw [List.take_of_length_le (by omega)] at this; exact this
  | succ m1 =>
    have hi : i < zs.length := by omega
    have htk : zs.take (i + 1) = zs.take i ++ [zs[i]] := by rw [List.take_add_one, List.getElem?_eq_getElem hi]; rfl
    repeat (first | with_reducible refine wT ?_ | with_reducible refine wbd (by assumption) ?_ | (with_reducible refine wat o2.int hi fun a hl => ?_) | with_reducible refine wlssT (by omega) ?_)
    refine weql (fun e => ?_) (fun e => ?_)
    · repeat (first | with_reducible refine wT ?_ | with_reducible refine wadd1 (by omega) ?_)
      refine wgtr (fun e2 => ?_) (fun e2 => ?_)
      · obtain ⟨v, h3, e3, r3, ok3, a1, a2, _⟩ := pick_calls g lf n (by omega) 2 r2 (by omega) (by omega)
        have a2' := a2 (by omega)
        have htset : ∀ w : Int, w ≠ 0 → ((zs.set i w).take (i + 1)).count 0 = (zs.take i).count 0 := fun w hw => by
          rw [List.take_add_one, List.getElem?_set_self hi, List.take_set_of_le (Nat.le_refl _), Option.toList_some, List.count_append, List.count_singleton]
          simp [hw]
        have o3 := o2.keepOnly ok3 (by omega)
        repeat (first | with_reducible refine wT ?_ | with_reducible refine wbd (by assumption) ?_ | (refine wst o3 hi fun h4 o4 k4 l4 a4 e4 => ?_) | with_reducible refine wadd1 (by omega) ?_)
        exact next _ _ (Nat.lt_succ_self m1) ⟨i + 1, fr + 1, _, h4, rfl, by omega, by omega, by rw [List.length_set]; exact hz, (r3.keep k4 (by omega)).mono (by omega), o4, (k2.trans ok3.keep).trans (k4.mono (by omega)), by rw [htset (IntKind.i64.wrap (1 + v)) (by rw [wr (by omega)]; omega)]; omega, fun hk => by rw [htset (IntKind.i64.wrap (1 + v)) (by rw [wr (by omega)]; omega)]; exact hc2 hk⟩
      · repeat (first | with_reducible refine wF ?_ | with_reducible refine wadd1 (by omega) ?_)
        exact next _ _ (Nat.lt_succ_self m1) ⟨i + 1, fr + 1, zs, h2, rfl, by omega, by omega, hz, r2.mono (by omega), o2, k2, by rw [htk, List.count_append, e]; simp; omega, fun hk => by rw [htk, List.count_append, e]; simp; omega⟩
    · repeat (first | with_reducible refine wF ?_ | with_reducible refine wadd1 (by omega) ?_)
      exact next _ _ (Nat.lt_succ_self m1) ⟨i + 1, fr, zs, h2, rfl, by omega, by omega, hz, r2.mono (by omega), o2, k2, by rw [htk, List.count_append, List.count_singleton]; simp [e]; exact hc1, fun hk => by rw [htk, List.count_append, List.count_singleton]; simp [e]; exact hc2 hk⟩


theorem drawFillCount_W {p : PV} {ys : List Int} {h : PHeap} (N : Nat) (hN : 7 ≤ N) (ha : Arg h p ys) (hlf : 20 < lf) :
    ∃ (r c : Int) (q : PV) (xs : List Int) (pl : Int) (h' : PHeap), CL g lf N fn_spec_DrawFillCount [p] h = some (.tup [.int .i64 r, .int .i64 c, q, .int .i64 pl], h') ∧ Keep h.length h h' ∧ IntSl .i64 h' q xs ∧ xs.length ≤ 10 ∧ 1 ≤ pl ∧ pl ≤ 4 := by
  obtain ⟨n, rfl⟩ : ∃ n, N = n + 1 := ⟨N - 1, by omega⟩
  have : W (CL g lf (n + 1) fn_spec_DrawFillCount [p] h) fun v h' => ∃ (r c : Int) (q : PV) (xs : List Int) (pl : Int), v = .tup [.int .i64 r, .int .i64 c, q, .int .i64 pl] ∧ Keep h.length h h' ∧ IntSl .i64 h' q xs ∧ xs.length ≤ 10 ∧ 1 ≤ pl ∧ pl ≤ 4 := by
    obtain ⟨h1, e1, r1, k1⟩ := open_calls g lf n (by omega) ha
    rw [spec_DrawFillCount.call_eq]
    unfold spec_DrawFillCount.main
    simp only [env_C, env_extract]
    repeat (first | with_reducible refine wbd (by assumption) ?_ | dsimp only)
    refine wcall (few_W g lf n (by omega) _ r1 (by omega) hlf) fun v h2 ⟨r, c, q, xs, pl, hv, k2, o2, hl, hp1, hp2⟩ => ?_
    subst hv
    repeat (first | with_reducible refine wrI ?_ | with_reducible refine wx0 ?_ | with_reducible refine wx1 ?_ | with_reducible refine wx2 ?_ | with_reducible refine wx3 ?_ | with_reducible refine wresO (by assumption) ?_ | dsimp only)
    exact W.ret ⟨r, c, q, xs, pl, rfl, k1.trans k2, o2.int, hl, hp1, hp2⟩
  obtain ⟨v, h', e, r, c, q, xs, pl, rfl, rest⟩ := this
  exact ⟨r, c, q, xs, pl, h', e, rest⟩


theorem drawDeadCells_W {p : PV} {ys : List Int} {h : PHeap} (N : Nat) (hN : 7 ≤ N) (ha : Arg h p ys) (hlf : 20 < lf) :
    ∃ (r c : Int) (q : PV) (xs : List Int) (h' : PHeap), CL g lf N fn_spec_DrawDeadCells [p] h = some (.tup [.int .i64 r, .int .i64 c, q], h') ∧ Keep h.length h h' ∧ IntSl .i64 h' q xs ∧ xs.length ≤ 10 := by
  obtain ⟨n, rfl⟩ : ∃ n, N = n + 1 := ⟨N - 1, by omega⟩
  have : W (CL g lf (n + 1) fn_spec_DrawDeadCells [p] h) fun v h' => ∃ (r c : Int) (q : PV) (xs : List Int), v = .tup [.int .i64 r, .int .i64 c, q] ∧ Keep h.length h h' ∧ IntSl .i64 h' q xs ∧ xs.length ≤ 10 := by
    obtain ⟨h1, e1, r1, k1⟩ := open_calls g lf n (by omega) ha
    rw [spec_DrawDeadCells.call_eq]
    unfold spec_DrawDeadCells.main
    simp only [env_C, env_extract]
    repeat (first | with_reducible refine wbd (by assumption) ?_ | dsimp only)
    refine wcall (few_W g lf n (by omega) _ r1 (by omega) hlf) fun v h2 ⟨r, c, q, xs, pl, hv, k2, o2, hl, hp1, hp2⟩ => ?_
    subst hv
    repeat (first | with_reducible refine wrI ?_ | with_reducible refine wx0 ?_ | with_reducible refine wx1 ?_ | with_reducible refine wx2 ?_ | with_reducible refine wx3 ?_ | with_reducible refine wresO (by assumption) ?_ | dsimp only)
    exact W.ret ⟨r, c, q, xs, rfl, k1.trans k2, o2.int, hl⟩
  obtain ⟨v, h', e, r, c, q, xs, rfl, rest⟩ := this
  exact ⟨r, c, q, xs, h', e, rest⟩

theorem drawMattersAt_W {p : PV} {ys : List Int} {h : PHeap} (N : Nat) (hN : 7 ≤ N) (ha : Arg h p ys) (hlf : 20 < lf) :
    ∃ (r c : Int) (q : PV) (xs : List Int) (k : Nat) (h' : PHeap), CL g lf N fn_spec_DrawMattersAt [p] h = some (.tup [.int .i64 r, .int .i64 c, q, .int .i64 (k : Int)], h') ∧ Keep h.length h h' ∧ IntSl .i64 h' q xs ∧ xs.length ≤ 10 ∧ k ≤ 1000 := by
  obtain ⟨n, rfl⟩ : ∃ n, N = n + 1 := ⟨N - 1, by omega⟩
  have : W (CL g lf (n + 1) fn_spec_DrawMattersAt [p] h) fun v h' => ∃ (r c : Int) (q : PV) (xs : List Int) (k : Nat), v = .tup [.int .i64 r, .int .i64 c, q, .int .i64 (k : Int)] ∧ Keep h.length h h' ∧ IntSl .i64 h' q xs ∧ xs.length ≤ 10 ∧ k ≤ 1000 := by
    obtain ⟨h1, e1, r1, k1⟩ := open_calls g lf n (by omega) ha
    rw [spec_DrawMattersAt.call_eq]
    unfold spec_DrawMattersAt.main
    simp only [env_C, env_bin, env_extract, env_len, env_max]
    repeat (first | with_reducible refine wbd (by assumption) ?_ | dsimp only)
    refine wcall (few2_W g lf n (by omega) _ r1 (by omega) hlf) fun v h2 ⟨r, c, q, xs, pl, hv, k2, o2, hl, hp1, hp2, r2, _⟩ => ?_
    subst hv
    obtain ⟨M, hM, hM1, hM2⟩ : ∃ M : Int, foldP maxP2 (.int .i64 (xs.length : Int)) [.int .i64 1] = some (.int .i64 M) ∧ 1 ≤ M ∧ M ≤ 10 := ⟨if (1 : Int) > xs.length then 1 else xs.length, rfl, by split <;> omega, by split <;> omega⟩
    obtain ⟨v1, h4, e4, r4, ok4, a1, a2, a3⟩ := pick_calls g lf n (by omega) M r2 (by omega) (by omega)
    have a2' := a2 (by omega)
    obtain ⟨v2, h5, e5, r5, ok5, b1, b2, _⟩ := pick_calls g lf n (by omega) 40 r4 (by omega) (by omega)
    have b2' := b2 (by omega)
    obtain ⟨q39, hq0, hq1⟩ := quo_39 b1 b2'
    have o5 := (o2.keepOnly ok4 (by omega)).keepOnly ok5 (by omega)
    have hkk : Keep h.length h h5 := k1.trans (k2.trans (ok4.keep.trans ok5.keep))
    obtain ⟨V, rfl⟩ := Int.eq_ofNat_of_zero_le a1
    obtain ⟨U, hU⟩ := Int.eq_ofNat_of_zero_le hq0
    rw [hU] at q39 hq1
    have hlen := o2.int.len'
    have hres : (V : Int) + (U : Int) * 9 = ((V + U * 9 : Nat) : Int) := by omega
    repeat (first | with_reducible refine wrI ?_ | with_reducible refine wx0 ?_ | with_reducible refine wx1 ?_ | with_reducible refine wx2 ?_ | with_reducible refine wx3 ?_ | with_reducible refine wbd (by assumption) ?_ | with_reducible refine wadd (by omega) ?_ | with_reducible refine wmul (by omega) ?_ | with_reducible refine wresO (by assumption) ?_ | dsimp only)
    rw [hres]
    exact W.ret ⟨r, c, q, xs, V + U * 9, rfl, hkk, o5.int, hl, by omega⟩
  obtain ⟨v, h', e, r, c, q, xs, k, rfl, rest⟩ := this
  exact ⟨r, c, q, xs, k, h', e, rest⟩

theorem drawPivotCount_W {p : PV} {ys : List Int} {h : PHeap} (N : Nat) (hN : 8 ≤ N) (ha : Arg h p ys) (hlf : 20 < lf) :
    ∃ (r c : Int) (q : PV) (xs : List Int) (k : Nat) (h' : PHeap), CL g lf N fn_spec_DrawPivotCount [p] h = some (.tup [.int .i64 r, .int .i64 c, q, .int .i64 (k : Int)], h') ∧ Keep h.length h h' ∧ IntSl .i64 h' q xs ∧ xs.length ≤ 10 ∧ k ≤ 1000 := by
  obtain ⟨n, rfl⟩ : ∃ n, N = n + 1 := ⟨N - 1, by omega⟩
  have : W (CL g lf (n + 1) fn_spec_DrawPivotCount [p] h) fun v h' => ∃ (r c : Int) (q : PV) (xs : List Int) (k : Nat), v = .tup [.int .i64 r, .int .i64 c, q, .int .i64 (k : Int)] ∧ Keep h.length h h' ∧ IntSl .i64 h' q xs ∧ xs.length ≤ 10 ∧ k ≤ 1000 := by
    obtain ⟨r, c, q, xs, k, h1, e1, k1, i1, hl, hk⟩ := drawMattersAt_W g lf n (by omega) ha hlf
    rw [spec_DrawPivotCount.call_eq]
    unfold spec_DrawPivotCount.main
    simp only [env_C, env_extract]
    have hres : resV q = some q := by
      rcases i1 with ⟨rfl, _⟩ | ⟨id, off, rfl, _⟩ <;> rfl
    repeat (first | with_reducible refine wrI ?_ | with_reducible refine wx0 ?_ | with_reducible refine wx1 ?_ | with_reducible refine wx2 ?_ | with_reducible refine wx3 ?_ | with_reducible refine wbd (by assumption) ?_ | dsimp only)
    exact W.ret ⟨r, c, q, xs, k, rfl, k1, i1, hl, hk⟩
  obtain ⟨v, h', e, r, c, q, xs, k, rfl, rest⟩ := this
  exact ⟨r, c, q, xs, k, h', e, rest⟩

end Go.Proofs.YtfgjbfaapbhppaaDoor

/- Stolen plans and pairs that answer: what chapter 4's functions tell, and what holds of it. No program text. -/
namespace Go.Proofs.YtfgjbfaapbhppaaDoor
open Go Go.Ip G

/-! ### pairs -/
/-- The partner of a cell, -1 if it has none. -/
def pairI (R C k : Nat) : Int := if R < k % C then -1 else if k / C < k % C then (((k % C - 1) * C + k / C : Nat) : Int) else ((k % C * C + k / C + 1 : Nat) : Int)
def wides : List (Nat × Nat) := [(1, 2), (1, 3), (1, 4), (2, 3), (2, 4)]
theorem wide_mem {R C : Nat} (hB : BoardOf R C) (h : R < C) : (R, C) ∈ wides := by
  obtain ⟨h1, h2, h3, h4, h9⟩ := hB
  have : C = 1 ∨ C = 2 ∨ C = 3 ∨ C = 4 := by omega
  rcases this with rfl | rfl | rfl | rfl <;> (have : R = 1 ∨ R = 2 ∨ R = 3 := by omega) <;> rcases this with rfl | rfl | rfl <;> first | omega | decide
def pairB (R C k : Nat) : Bool :=
  decide (-1 ≤ pairI R C k ∧ pairI R C k < ((R * C : Nat) : Int)) && (decide (pairI R C k < 0) || (decide (pairI R C k ≠ (k : Int)) && decide (pairI R C (pairI R C k).toNat = (k : Int)))) && (decide (C ≠ R + 1) || decide (0 ≤ pairI R C k))
theorem pair_all : (wides.all fun b => (List.range (b.1 * b.2)).all (pairB b.1 b.2)) = true := by kernel_rfl
theorem pair_ok {R C k : Nat} (hB : BoardOf R C) (h : R < C) (hk : k < R * C) : pairB R C k = true :=
  List.all_eq_true.1 (List.all_eq_true.1 pair_all (R, C) (wide_mem hB h)) k (List.mem_range.2 hk)
theorem pair_facts {R C k : Nat} (hB : BoardOf R C) (h : R < C) (hk : k < R * C) : (pairI R C k = -1 ∧ C ≠ R + 1) ∨ ∃ p : Nat, pairI R C k = (p : Int) ∧ p < R * C ∧ p ≠ k ∧ pairI R C p = (k : Int) := by
  have := pair_ok hB h hk
  unfold pairB at this
  simp only [Bool.and_eq_true, Bool.or_eq_true, decide_eq_true_eq] at this
  obtain ⟨⟨⟨h1, h2⟩, h3⟩, h4⟩ := this
  rcases h3 with h3 | ⟨h3, h5⟩
  · left; exact ⟨by omega, by rcases h4 with h4 | h4 <;> omega⟩
  · by_cases hn : pairI R C k < 0
    · left; exact ⟨by omega, by rcases h4 with h4 | h4 <;> omega⟩
    · obtain ⟨p, hp⟩ := Int.eq_ofNat_of_zero_le (show 0 ≤ pairI R C k by omega)
      rw [hp] at h5 h2 h3
      exact .inr ⟨p, hp, by omega, by omega, h5⟩

/-- A set that has one of each pair joins the first player's sides. -/
def sharedB (R C S : Nat) : Bool := (List.range (R * C)).all fun k => decide (pairI R C k < 0) || S.testBit k || S.testBit (pairI R C k).toNat
theorem shared_all : (wides.all fun b => (List.range (2 ^ (b.1 * b.2))).all fun S => !sharedB b.1 b.2 S || joinsN b.1 b.2 1 S) = true := by kernel_rfl
theorem shared_joins {R C S : Nat} (hB : BoardOf R C) (h : R < C) (hS : S < 2 ^ (R * C)) (hs : ∀ k p : Nat, k < R * C → pairI R C k = (p : Int) → S.testBit k = true ∨ S.testBit p = true) : joinsN R C 1 S = true := by
  have := List.all_eq_true.1 (List.all_eq_true.1 shared_all (R, C) (wide_mem hB h)) S (List.mem_range.2 hS)
  have hsh : sharedB R C S = true := by
    unfold sharedB
    rw [List.all_eq_true]
    intro k hk
    rcases pair_facts hB h (List.mem_range.1 hk) with ⟨e, _⟩ | ⟨p, e, _⟩
    · rw [e]; rfl
    · rw [e]
      have := hs k p (List.mem_range.1 hk) e
      rw [Bool.or_assoc, show ((p : Int).toNat) = p from rfl]
      rcases this with h | h <;> rw [h] <;> simp
  have h2 : (!sharedB R C S || joinsN R C 1 S) = true := this
  rw [hsh] at h2; exact h2

/-- With a stone on no whole pair the second player has not joined. -/
theorem second_not {R C b : Nat} (hB : BoardOf R C) (h : R < C) (hb : b < 2 ^ (R * C)) (hs : ∀ k p : Nat, k < R * C → pairI R C k = (p : Int) → b.testBit k = true → b.testBit p = false) : joinsN R C 2 b = false := by
  have hc : 2 ^ (R * C) - 1 - b < 2 ^ (R * C) := by have := Nat.two_pow_pos (R * C); omega
  have h1 := shared_joins hB h hc fun k p hk e => by
    rw [compl_bit hb, compl_bit hb]
    rcases pair_facts hB h hk with ⟨e', _⟩ | ⟨p', e', hp', _⟩
    · rw [e] at e'; omega
    · have hpp : p = p' := by rw [e] at e'; omega
      cases hkb : b.testBit k with
      | false => left; simp [hk]
      | true => right; rw [hs k p hk e hkb]; simp; omega
  have h2 := hex hB (P := 2) (.inr rfl) hb
  rw [show 3 - 2 = 1 from rfl, h1] at h2; exact h2

/-- Each stone of the second player is answered: the partner's cell has one of the first player. -/
def Paired (R C a b : Nat) : Prop := ∀ k p : Nat, k < R * C → pairI R C k = (p : Int) → b.testBit k = true → a.testBit p = true

theorem pair_wins {R C : Nat} (hB : BoardOf R C) (h : R < C) : ∀ (m a b : Nat), frN (R * C) a b ≤ m → Pos R C a b → Paired R C a b → winN R C a b 2 = 1 := by
  intro m
  induction m using Nat.strongRecOn with
  | _ m ih =>
  intro a b hm hp hpa
  have hno : joinsN R C 2 b = false := second_not hB h hp.2.1 fun k p hk e hb => by
    have := hpa k p hk e hb
    cases e2 : b.testBit p with
    | false => rfl
    | true => exact (hp.2.2 p this e2).elim
  cases j1 : joinsN R C 1 a with
  | true => exact win_first j1
  | false =>
  rw [win_open j1 hno, if_neg]
  intro hmv
  obtain ⟨k, hk, hf, hw⟩ := moveB_iff.1 hmv
  have hfr := fr_put (t := 2) hk hf
  have hpp := hp.put (t := 2) hk hf
  have hfk := hf
  rw [Nat.testBit_or, Bool.or_eq_false_iff] at hfk
  have hbit : ∀ j, (b ||| (1 <<< k)).testBit j = (b.testBit j || decide (j = k)) := with_bit b k
  have ans : winN R C (putA 2 k a) (putB 2 k b) 1 = 1 := by
    by_cases hpart : ∃ p : Nat, pairI R C k = (p : Int) ∧ p < R * C ∧ p ≠ k ∧ pairI R C p = (k : Int) ∧ (a ||| b).testBit p = false
    · obtain ⟨p, e, hpn, hne, e', hpf⟩ := hpart
      have hpf2 : (putA 2 k a ||| putB 2 k b).testBit p = false := by rw [put_bit, hpf]; simp [hne]
      have hppp := hpp.put (t := 1) hpn hpf2
      have hfr2 := fr_put (t := 1) hpn hpf2
      have hno2 : joinsN R C 2 (putB 2 k b) = false := second_not hB h hpp.2.1 fun i q hi eq hb => by
        show (b ||| (1 <<< k)).testBit q = false
        have hb' : (b ||| (1 <<< k)).testBit i = true := hb
        rw [hbit, Bool.or_eq_true, decide_eq_true_eq] at hb'
        rw [hbit, Bool.or_eq_false_iff, decide_eq_false_iff_not]
        rcases hb' with hb' | rfl
        · have ha := hpa i q hi eq hb'
          refine ⟨?_, fun hqk => ?_⟩
          · cases e2 : b.testBit q with
            | false => rfl
            | true => exact (hp.2.2 q ha e2).elim
          · subst hqk; rw [hfk.1] at ha; cases ha
        · have hqp : q = p := by rw [e] at eq; omega
          subst hqp
          rw [Nat.testBit_or, Bool.or_eq_false_iff] at hpf
          exact ⟨hpf.2, hne⟩
      cases j3 : joinsN R C 1 (putA 2 k a) with
      | true => exact win_first j3
      | false =>
        rw [win_open j3 hno2, if_pos]
        refine moveB_iff.2 ⟨p, hpn, hpf2, ?_⟩
        refine ih (m - 1 - 1) (by omega) _ _ (by omega) hppp fun i q hi eq hb => ?_
        have hb' : (b ||| (1 <<< k)).testBit i = true := hb
        show (a ||| (1 <<< p)).testBit q = true
        rw [hbit, Bool.or_eq_true, decide_eq_true_eq] at hb'
        rw [with_bit, Bool.or_eq_true, decide_eq_true_eq]
        rcases hb' with hb' | rfl
        · exact .inl (hpa i q hi eq hb')
        · right; rw [e] at eq; omega
    · refine win_move hB hpp (ih (m - 1) (by omega) _ _ (by omega) hpp fun i q hi eq hb => ?_)
      have hb' : (b ||| (1 <<< k)).testBit i = true := hb
      show a.testBit q = true
      rw [hbit, Bool.or_eq_true, decide_eq_true_eq] at hb'
      rcases hb' with hb' | rfl
      · exact hpa i q hi eq hb'
      · rcases pair_facts hB h hk with ⟨e', _⟩ | ⟨p', e', hp', hne', hback⟩
        · rw [eq] at e'; omega
        · have hqp : q = p' := by rw [eq] at e'; omega
          subst hqp
          cases e2 : (a ||| b).testBit q with
          | false => exact (hpart ⟨q, eq, hp', hne', hback, e2⟩).elim
          | true =>
            rw [Nat.testBit_or, Bool.or_eq_true] at e2
            rcases e2 with e2 | e2
            · exact e2
            · have := hpa q i hp' hback e2
              rw [hfk.1] at this; cases this
  rw [show (3 : Nat) - 2 = 1 from rfl, ans] at hw; cases hw

theorem pos_zero (R C : Nat) : Pos R C 0 0 := ⟨Nat.two_pow_pos _, Nat.two_pow_pos _, fun j h => by rw [Nat.zero_testBit] at h; cases h⟩
theorem wide_wins {R C : Nat} (hB : BoardOf R C) (h : R < C) : winN R C 0 0 1 = 1 ∧ winN R C 0 0 2 = 1 := by
  have := pair_wins hB h _ 0 0 (Nat.le_refl _) (pos_zero R C) fun k p _ _ hb => by rw [Nat.zero_testBit] at hb; cases hb
  exact ⟨win_move hB (pos_zero R C) this, this⟩

/-! ### pairs that are shared -/
def pfF (R C : Nat) : Nat → Nat → List Int → Nat → List Int
  | 0, _, out, _ => out
  | m + 1, k, out, ch =>
    if pairI R C k < 0 then pfF R C m (k + 1) (out.set k 2) ch
    else if (k : Int) < pairI R C k then
      if ch % 2 = 1 then pfF R C m (k + 1) ((out.set k 1).set (pairI R C k).toNat 2) (ch / 2) else pfF R C m (k + 1) ((out.set k 2).set (pairI R C k).toNat 1) (ch / 2)
    else pfF R C m (k + 1) out ch
def pairFillN (R C ch : Nat) : List Int := pfF R C (R * C) 0 (List.replicate (R * C) 0) ch
theorem pfF_mod (R C : Nat) : ∀ (m k : Nat) (out : List Int) (ch : Nat), pfF R C m k out ch = pfF R C m k out (ch % 2 ^ m)
  | 0, _, _, _ => rfl
  | m + 1, k, out, ch => by
    rw [pfF, pfF]
    have e1 : ch % 2 ^ (m + 1) % 2 = ch % 2 := Nat.mod_mod_of_dvd _ ⟨2 ^ m, by rw [Nat.pow_succ, Nat.mul_comm]⟩
    have e2 : ch % 2 ^ (m + 1) / 2 = ch / 2 % 2 ^ m := by rw [Nat.pow_succ, Nat.mul_comm, Nat.mod_mul_right_div_self]
    have e3 : ch % 2 ^ (m + 1) % 2 ^ m = ch % 2 ^ m := Nat.mod_mod_of_dvd _ ⟨2, by rw [Nat.pow_succ]⟩
    rw [e1, e2]
    rw [pfF_mod R C m (k + 1) (out.set k 2) ch, pfF_mod R C m (k + 1) (out.set k 2) (ch % 2 ^ (m + 1)), e3]
    rw [pfF_mod R C m (k + 1) out ch, pfF_mod R C m (k + 1) out (ch % 2 ^ (m + 1)), e3]
    rw [pfF_mod R C m (k + 1) _ (ch / 2)]
    rw [pfF_mod R C m (k + 1) ((out.set k 2).set (pairI R C k).toNat 1) (ch / 2)]
def fillOkB (R C : Nat) (x : List Int) : Bool := decide (x.length = R * C) && x.all (fun v => decide (v = 1) || decide (v = 2)) && joinsN R C 1 (setL x 1)
theorem fill_all : (wides.all fun b => (List.range (2 ^ (b.1 * b.2))).all fun ch => fillOkB b.1 b.2 (pairFillN b.1 b.2 ch)) = true := by kernel_rfl
theorem fill_ok {R C : Nat} (hB : BoardOf R C) (h : R < C) (ch : Nat) : fillOkB R C (pairFillN R C ch) = true := by
  unfold pairFillN
  rw [pfF_mod]
  exact List.all_eq_true.1 (List.all_eq_true.1 fill_all (R, C) (wide_mem hB h)) (ch % 2 ^ (R * C)) (List.mem_range.2 (Nat.mod_lt _ (Nat.two_pow_pos _)))

/-! ### openings -/
def freeL (R C : Nat) : List Int := List.replicate (R * C) 0
theorem free_pos {R C : Nat} (hB : BoardOf R C) : posB (R : Int) (C : Int) (freeL R C) = true := by
  obtain ⟨h1, h2, h3, h4, h9⟩ := hB
  refine posB_free ?_ (by rw [Int.natCast_mul])
  unfold boardB
  have : ((R : Int) * (C : Int)) ≤ 9 := by rw [← Int.natCast_mul]; omega
  exact decide_eq_true ⟨by omega, by omega, by omega, by omega, this⟩
theorem free_set (R C : Nat) {w : Int} (hw : w ≠ 0) : setL (freeL R C) w = 0 := by
  apply Nat.eq_of_testBit_eq
  intro j
  rw [Nat.zero_testBit]
  cases e : (setL (freeL R C) w).testBit j with
  | false => rfl
  | true =>
    rw [setL_bit] at e
    unfold freeL at e
    rw [List.getElem?_replicate] at e
    split at e
    · exact absurd (Option.some.inj e).symm hw
    · cases e
theorem zero_not {R C P : Nat} : joinsN R C P 0 = false := by
  cases e : joinsN R C P 0 with
  | false => rfl
  | true =>
    obtain ⟨j, _, hr⟩ := (joins_iff (by decide)).1 e
    have := hr.inSet
    rw [Nat.zero_testBit] at this; cases this
theorem sides_free {R C : Nat} (hB : BoardOf R C) : Sides (R : Int) (C : Int) R C (freeL R C) := by
  obtain ⟨R', C', hS⟩ := sides_of (free_pos hB)
  have e1 : R' = R := by have := hS.1; omega
  have e2 : C' = C := by have := hS.2.1; omega
  rw [e1, e2] at hS; exact hS
theorem free_joins {R C : Nat} (hB : BoardOf R C) : joinsL (R : Int) (C : Int) (freeL R C) 1 = false ∧ joinsL (R : Int) (C : Int) (freeL R C) 2 = false := by
  have hb := free_pos hB
  rw [joins_one hb, joins_two hb, free_set R C (by decide), free_set R C (by decide)]
  exact ⟨zero_not, zero_not⟩
theorem free_winL {R C T : Nat} (hB : BoardOf R C) (hT : T = 1 ∨ T = 2) : winL (R : Int) (C : Int) (freeL R C) (T : Int) = ((winN R C 0 0 T : Nat) : Int) := by
  rw [winL_eq (free_pos hB) hT, free_set R C (by decide), free_set R C (by decide)]

/-- Who moves first wins on square boards. -/
theorem square_wins {R : Nat} (hB : BoardOf R R) {T : Nat} (hT : T = 1 ∨ T = 2) : winN R R 0 0 T = T := by
  have hmz : moved (sig R R) 0 (R * R) = 0 := by
    apply Nat.eq_of_testBit_eq
    intro j
    rw [Nat.zero_testBit]
    cases e : (moved (sig R R) 0 (R * R)).testBit j with
    | false => rfl
    | true =>
      obtain ⟨k, _, hk, _⟩ := (moved_bit _ _ _ _).1 e
      rw [Nat.zero_testBit] at hk; cases hk
  have h12 := winN_swapped (f := sig R R) hB rfl (perm_sig hB) (fun S h => (hex_moves hB h).2.2.1) (fun S h => (hex_moves hB h).2.2.2) _ 0 0 1 (Nat.le_refl _) (pos_zero R R) (.inl rfl)
  rw [hmz] at h12
  have h12' : winN R R 0 0 2 = 3 - winN R R 0 0 1 := h12
  have h1 : winN R R 0 0 1 = 1 := by
    rcases win_cases (R := R) (C := R) (a := 0) (b := 0) (t := 1) (.inl rfl) with h | h
    · exact h
    · rw [h] at h12'
      rw [win_move hB (pos_zero R R) h12'] at h; cases h
  rcases hT with rfl | rfl
  · exact h1
  · rw [h12', h1]

theorem free_reverse {R C k : Nat} {P : Int} (hk : k < R * C) : ((freeL R C).set k P).reverse = (freeL R C).set (R * C - 1 - k) P := by
  apply List.ext_getElem?
  intro j
  unfold freeL
  by_cases hj : j < R * C
  · rw [List.getElem?_reverse (by simp; exact hj), List.getElem?_set, List.getElem?_set, List.length_set, List.length_replicate]
    by_cases e : k = R * C - 1 - j
    · rw [if_pos e, if_pos (by omega), if_pos (show R * C - 1 - k = j by omega), if_pos (by omega)]
    · rw [if_neg e, if_neg (show ¬ R * C - 1 - k = j by omega), List.getElem?_replicate, List.getElem?_replicate, if_pos (by omega), if_pos hj]
  · rw [List.getElem?_eq_none (by simp; omega), List.getElem?_eq_none (by simp; omega)]

theorem free_mirror {R C k P : Nat} (hB : BoardOf R C) (hP : P = 1 ∨ P = 2) (hk : k < R * C) : mir R C ((freeL R C).set k (P : Int)) = (freeL C R).set (sig C R k) ((3 - P : Nat) : Int) := by
  have hpm := perm_sig hB
  obtain ⟨h1, h2, h3, h4, h9⟩ := hB
  have hlen : ((freeL R C).set k (P : Int)).length = R * C := by simp [freeL]
  apply List.ext_getElem?
  intro j
  by_cases hj : j < R * C
  · rw [mir_get (by rw [hlen]; exact hj), List.getElem?_set]
    have hs : sig R C j < R * C := (sig_lt h1 h2 h3 h4 h9 hj).1
    have hb : sig C R (sig R C j) = j := (sig_lt h1 h2 h3 h4 h9 hj).2
    have hlC : (freeL C R).length = R * C := by simp [freeL, Nat.mul_comm]
    rw [List.getD_eq_getElem?_getD, List.getElem?_set]
    have hlR : (freeL R C).length = R * C := by simp [freeL]
    by_cases e : k = sig R C j
    · have e2 : sig C R k = j := by rw [e]; exact hb
      rw [if_pos e, if_pos (by rw [hlR]; exact hk), if_pos e2, if_pos (by rw [hlC, e2]; exact hj)]
      show some (swapI (P : Int)) = _
      rw [swap_player hP]
    · have e2 : ¬ sig C R k = j := fun hh => e (hpm.inj k (sig R C j) hk hs (by rw [hb]; exact hh))
      rw [if_neg e, if_neg e2]
      unfold freeL
      rw [List.getElem?_replicate, List.getElem?_replicate, if_pos hs, if_pos (by rw [Nat.mul_comm]; exact hj)]
      rfl
  · have l1 : (mir R C ((freeL R C).set k (P : Int))).length = R * C := by rw [mir_length, hlen]
    have l2 : ((freeL C R).set (sig C R k) ((3 - P : Nat) : Int)).length = R * C := by simp [freeL, Nat.mul_comm]
    rw [List.getElem?_eq_none (by omega), List.getElem?_eq_none (by omega)]

theorem free_get {R C k : Nat} : (freeL R C)[k]? = some 0 ↔ k < R * C := by
  unfold freeL
  rw [List.getElem?_replicate]
  split
  · rename_i h; simp [h]
  · rename_i h; simp [h]
theorem open_iff {R C P k : Nat} (hB : BoardOf R C) (hP : P = 1 ∨ P = 2) : winsB (R : Int) (C : Int) (freeL R C) (P : Int) k = true ↔ k < R * C ∧ winL (R : Int) (C : Int) ((freeL R C).set k (P : Int)) ((3 - P : Nat) : Int) = (P : Int) := by
  rw [winsB_iff, moveL_iff, free_get, show (3 : Int) - (P : Int) = ((3 - P : Nat) : Int) by omega]
  have hj := free_joins hB
  exact ⟨fun h => ⟨h.1.2.2.1, h.2⟩, fun h => ⟨⟨free_pos hB, playerB_of hP, h.1, hj.1, hj.2⟩, h.2⟩⟩
theorem open_turn {R C P k : Nat} (hB : BoardOf R C) (hP : P = 1 ∨ P = 2) (h : winsB (R : Int) (C : Int) (freeL R C) (P : Int) k = true) : winsB (R : Int) (C : Int) (freeL R C) (P : Int) (R * C - 1 - k) = true := by
  obtain ⟨hk, hw⟩ := (open_iff hB hP).1 h
  refine (open_iff hB hP).2 ⟨by omega, ?_⟩
  have hb := pos_set (free_pos hB) hP k
  have hS := sides_set (free_pos hB) (sides_free hB) (k := k) hP
  have hO : 3 - P = 1 ∨ 3 - P = 2 := by omega
  rw [← free_reverse hk, winL_turned hb hS hO (by rw [free_reverse hk]; exact pos_set (free_pos hB) hP _)]
  exact hw
theorem open_mir {R C P k : Nat} (hB : BoardOf R C) (hP : P = 1 ∨ P = 2) (hk : k < R * C) : winsB (C : Int) (R : Int) (freeL C R) ((3 - P : Nat) : Int) (sig C R k) = winsB (R : Int) (C : Int) (freeL R C) (P : Int) k := by
  have hB' := board_swap hB
  have hO : 3 - P = 1 ∨ 3 - P = 2 := by omega
  have hb := pos_set (free_pos hB) hP k
  have hS := sides_set (free_pos hB) (sides_free hB) (k := k) hP
  have hm := free_mirror hB hP hk
  have hb' := pos_set (free_pos hB') hO (sig C R k)
  have hlt := (perm_sig hB).lt k hk
  have hw := winL_mirrored hb hS hO (by rw [hm]; exact hb')
  rw [hm] at hw
  have e1 : 3 - (3 - P) = P := by omega
  rw [e1] at hw
  obtain ⟨V, hV, hV2⟩ := winL_cases hb hO
  rw [Bool.eq_iff_iff, open_iff hB' hO, open_iff hB hP, e1, hw, hV]
  have : C * R = R * C := Nat.mul_comm _ _
  constructor
  · rintro ⟨_, h⟩; exact ⟨hk, by omega⟩
  · rintro ⟨_, h⟩; exact ⟨by omega, by omega⟩
theorem open_count {R C P : Nat} (hB : BoardOf R C) (hP : P = 1 ∨ P = 2) : (winCellsL (C : Int) (R : Int) (freeL C R) ((3 - P : Nat) : Int)).length = (winCellsL (R : Int) (C : Int) (freeL R C) (P : Int)).length := by
  unfold winCellsL
  rw [List.length_map, List.length_map, ← List.countP_eq_length_filter, ← List.countP_eq_length_filter]
  have e1 : (freeL C R).length = R * C := by simp [freeL, Nat.mul_comm]
  have e2 : (freeL R C).length = R * C := by simp [freeL]
  rw [e1, e2]
  obtain ⟨h1, h2, h3, h4, h9⟩ := id hB
  have hperm : ((List.range (R * C)).map (sig C R)).Perm (List.range (R * C)) := by
    have := sig_perm (R := C) (C := R) h4 h2 (by rw [Nat.mul_comm]; exact h9)
    rw [Nat.mul_comm C R] at this; exact this
  rw [← hperm.countP_eq, List.countP_map]
  apply List.countP_congr
  intro k hk
  show winsB _ _ _ _ (sig C R k) = true ↔ _
  rw [open_mir hB hP (List.mem_range.1 hk)]

end Go.Proofs.YtfgjbfaapbhppaaDoor

/- Fillings: how many of them a player wins, which cells matter, and that stones on cells that do not matter change nothing. No program text. -/
namespace Go.Proofs.YtfgjbfaapbhppaaDoor
open Go Go.Ip G

/-! ### counting over all fillings of some cells -/
def cntN (J : Nat → Bool) : Nat → List Nat → Nat
  | s, [] => if J s = true then 1 else 0
  | s, c :: l => cntN J s l + cntN J (s ||| (1 <<< c)) l
/-- The filling that a number tells. -/
def fillN : List Nat → Nat → Nat
  | [], _ => 0
  | c :: l, m => ((m % 2) <<< c) ||| fillN l (m / 2)

theorem countP_double (p : Nat → Bool) : ∀ n, (List.range (2 * n)).countP p = (List.range n).countP (fun m => p (2 * m)) + (List.range n).countP (fun m => p (2 * m + 1))
  | 0 => rfl
  | n + 1 => by
    rw [show 2 * (n + 1) = 2 * n + 1 + 1 by omega, List.range_succ, List.range_succ, List.range_succ, List.countP_append, List.countP_append, countP_double p n, List.countP_append, List.countP_append]
    simp only [List.countP_singleton]
    omega
theorem cnt_range (J : Nat → Bool) : ∀ (l : List Nat) (s : Nat), (List.range (2 ^ l.length)).countP (fun m => J (s ||| fillN l m)) = cntN J s l
  | [], s => by simp [fillN, cntN, List.countP_cons]
  | c :: l, s => by
    rw [List.length_cons, Nat.pow_succ, Nat.mul_comm, countP_double, cntN, ← cnt_range J l s, ← cnt_range J l (s ||| (1 <<< c))]
    congr 1
    · apply List.countP_congr
      intro m _
      have e1 : 2 * m % 2 = 0 := by omega
      have e2 : 2 * m / 2 = m := by omega
      rw [fillN, e1, e2, Nat.zero_shiftLeft, Nat.zero_or]
    · apply List.countP_congr
      intro m _
      have e1 : (2 * m + 1) % 2 = 1 := by omega
      have e2 : (2 * m + 1) / 2 = m := by omega
      rw [fillN, e1, e2, Nat.or_assoc]

theorem cnt_congr {J J' : Nat → Bool} (h : ∀ S, J S = J' S) (s : Nat) (l : List Nat) : cntN J s l = cntN J' s l := by rw [show J = J' from funext h]
theorem cnt_le (J : Nat → Bool) : ∀ (l : List Nat) (s : Nat), cntN J s l ≤ 2 ^ l.length
  | [], s => by rw [cntN]; split <;> decide
  | c :: l, s => by
    have h1 := cnt_le J l s
    have h2 := cnt_le J l (s ||| (1 <<< c))
    rw [cntN, List.length_cons, Nat.pow_succ]; omega
theorem cnt_perm {J : Nat → Bool} {l l' : List Nat} (h : l.Perm l') : ∀ s, cntN J s l = cntN J s l' := by
  induction h with
  | nil => intro s; rfl
  | cons c _ ih => intro s; rw [cntN, cntN, ih, ih]
  | swap c d l =>
    intro s
    rw [cntN, cntN, cntN, cntN, cntN, cntN]
    have : s ||| 1 <<< c ||| 1 <<< d = s ||| 1 <<< d ||| 1 <<< c := by rw [Nat.or_assoc, Nat.or_comm (1 <<< c), ← Nat.or_assoc]
    rw [this]; omega
  | trans _ _ ih1 ih2 => intro s; rw [ih1, ih2]
/-- Nothing is won: no filling is. -/
theorem cnt_zero {J : Nat → Bool} : ∀ {l : List Nat} {s : Nat}, cntN J s l = 0 → ∀ F, (∀ j, F.testBit j = true → j ∈ l) → J (s ||| F) = false
  | [], s, h, F, hF => by
    have : F = 0 := Nat.eq_of_testBit_eq fun j => by
      rw [Nat.zero_testBit]
      cases e : F.testBit j with
      | false => rfl
      | true => have := hF j e; cases this
    rw [this, Nat.or_zero]
    rw [cntN] at h
    cases e : J s with
    | false => rfl
    | true => rw [e] at h; exact absurd h (by decide)
  | c :: l, s, h, F, hF => by
    rw [cntN] at h
    by_cases e : F.testBit c = true
    · have hw : s ||| F = (s ||| (1 <<< c)) ||| without F c := by
        apply Nat.eq_of_testBit_eq; intro j
        rw [Nat.testBit_or, Nat.testBit_or, with_bit, without_bit]
        by_cases hj : j = c
        · subst hj; simp [e]
        · simp [hj]
      rw [hw]
      refine cnt_zero (l := l) (by omega) _ fun j hj => ?_
      rw [without_bit, Bool.and_eq_true, decide_eq_true_eq] at hj
      exact (List.mem_cons.1 (hF j hj.1)).resolve_left hj.2
    · refine cnt_zero (l := l) (by omega) F fun j hj => ?_
      refine (List.mem_cons.1 (hF j hj)).resolve_left fun hh => ?_
      subst hh; exact e hj
theorem cnt_pos {J : Nat → Bool} {l : List Nat} {s : Nat} : 0 < cntN J s l ↔ ∃ m, m < 2 ^ l.length ∧ J (s ||| fillN l m) = true := by
  rw [← cnt_range, List.countP_pos_iff]
  constructor
  · rintro ⟨m, h1, h2⟩; exact ⟨m, List.mem_range.1 h1, h2⟩
  · rintro ⟨m, h1, h2⟩; exact ⟨m, List.mem_range.2 h1, h2⟩

/-! ### what a stone more is worth -/
def MonoB (J : Nat → Bool) : Prop := ∀ S T, S < 2 ^ 9 → T < 2 ^ 9 → (∀ j, S.testBit j = true → T.testBit j = true) → J S = true → J T = true
theorem joins_monoB (R C P : Nat) : MonoB (joinsN R C P) := fun _ _ hS hT h hj => joins_mono hS hT h hj
/-- A stone on c decides. -/
def pivJ (J : Nat → Bool) (c S : Nat) : Bool := J (S ||| (1 <<< c)) && !J S
theorem or_swap (s c d : Nat) : s ||| 1 <<< c ||| 1 <<< d = s ||| 1 <<< d ||| 1 <<< c := by rw [Nat.or_assoc, Nat.or_comm (1 <<< c), ← Nat.or_assoc]
theorem cnt_pivot {J : Nat → Bool} (hJ : MonoB J) {c : Nat} (hc : c < 9) : ∀ {l : List Nat} {s : Nat}, s < 2 ^ 9 → (∀ j ∈ l, j < 9) → cntN (pivJ J c) s l + cntN J s l = cntN J (s ||| (1 <<< c)) l
  | [], s, hs, _ => by
    rw [cntN, cntN, cntN]
    unfold pivJ
    have hm := hJ s (s ||| (1 <<< c)) hs (with_lt hs hc) (fun j hj => by rw [with_bit, hj]; rfl)
    cases e1 : J s with
    | true => rw [hm e1]; rfl
    | false => cases e2 : J (s ||| 1 <<< c) <;> rfl
  | d :: l, s, hs, hl => by
    have hd := hl d (List.mem_cons_self ..)
    have h1 := cnt_pivot hJ hc (l := l) hs fun j hj => hl j (List.mem_cons_of_mem _ hj)
    have h2 := cnt_pivot hJ hc (l := l) (with_lt hs hd) fun j hj => hl j (List.mem_cons_of_mem _ hj)
    rw [cntN, cntN, cntN, or_swap s c d]
    omega
theorem cnt_mono {J : Nat → Bool} (hJ : MonoB J) {c : Nat} (hc : c < 9) {l : List Nat} {s : Nat} (hs : s < 2 ^ 9) (hl : ∀ j ∈ l, j < 9) : cntN J s l ≤ cntN J (s ||| (1 <<< c)) l := by
  have := cnt_pivot hJ hc hs hl; omega

/-! ### each filling is won by one -/
/-- A position whose free cells are those of a list. -/
structure Cover (R C a b : Nat) (l : List Nat) : Prop where
  pos : Pos R C a b
  nodup : l.Nodup
  free : ∀ j, j ∈ l ↔ j < R * C ∧ (a ||| b).testBit j = false
theorem Cover.put {R C a b c : Nat} {l : List Nat} (h : Cover R C a b (c :: l)) (t : Nat) : Cover R C (putA t c a) (putB t c b) l := by
  have hc := (h.free c).1 (List.mem_cons_self ..)
  have hnd := List.nodup_cons.1 h.nodup
  refine ⟨h.pos.put hc.1 hc.2, hnd.2, fun j => ?_⟩
  rw [put_bit, Bool.or_eq_false_iff, decide_eq_false_iff_not]
  constructor
  · intro hj
    have := (h.free j).1 (List.mem_cons_of_mem _ hj)
    exact ⟨this.1, this.2, fun e => hnd.1 (e ▸ hj)⟩
  · rintro ⟨h1, h2, h3⟩
    exact (List.mem_cons.1 ((h.free j).2 ⟨h1, h2⟩)).resolve_left h3
theorem Cover.full {R C a b : Nat} (h : Cover R C a b []) : 2 ^ (R * C) - 1 - a = b := by
  apply Nat.eq_of_testBit_eq
  intro j
  rw [compl_bit h.pos.1]
  by_cases hj : j < R * C
  · have hab : (a ||| b).testBit j = true := by
      cases e : (a ||| b).testBit j with
      | true => rfl
      | false => have := (h.free j).2 ⟨hj, e⟩; cases this
    rw [Nat.testBit_or, Bool.or_eq_true] at hab
    cases ea : a.testBit j with
    | true =>
      cases eb : b.testBit j with
      | false => simp
      | true => exact (h.pos.2.2 j ea eb).elim
    | false =>
      rw [ea] at hab
      simp at hab
      simp [hj, hab]
  · cases eb : b.testBit j with
    | true => exact (hj (bit_small h.pos.2.1 eb)).elim
    | false => simp [hj]
theorem cnt_sum {R C : Nat} (hB : BoardOf R C) : ∀ {l : List Nat} {a b : Nat}, Cover R C a b l → cntN (joinsN R C 1) a l + cntN (joinsN R C 2) b l = 2 ^ l.length
  | [], a, b, h => by
    have h3 := hex hB (.inl rfl) h.pos.1
    rw [show 3 - 1 = 2 from rfl, h.full] at h3
    rw [cntN, cntN, h3]
    cases joinsN R C 2 b <;> rfl
  | c :: l, a, b, h => by
    have h1 := cnt_sum hB (h.put 1)
    have h2 := cnt_sum hB (h.put 2)
    have e1 : putA 1 c a = a ||| (1 <<< c) := rfl
    have e2 : putB 1 c b = b := rfl
    have e3 : putA 2 c a = a := rfl
    have e4 : putB 2 c b = b ||| (1 <<< c) := rfl
    rw [e1, e2] at h1
    rw [e3, e4] at h2
    rw [cntN, cntN, List.length_cons, Nat.pow_succ]
    omega
theorem cnt_sumP {R C P : Nat} (hB : BoardOf R C) (hP : P = 1 ∨ P = 2) {l : List Nat} {a b : Nat} (h : Cover R C a b l) : cntN (joinsN R C P) (if P = 1 then a else b) l + cntN (joinsN R C (3 - P)) (if P = 1 then b else a) l = 2 ^ l.length := by
  have := cnt_sum hB h
  rcases hP with rfl | rfl
  · exact this
  · show cntN (joinsN R C 2) b l + cntN (joinsN R C 1) a l = _; omega

/-! ### the free cells of a set, as a list -/
def cellsN (S : Nat) : List Nat := (List.range 9).filter S.testBit
theorem cellsN_mem {S j : Nat} (hS : S < 2 ^ 9) : j ∈ cellsN S ↔ S.testBit j = true := by
  unfold cellsN
  rw [List.mem_filter, List.mem_range]
  exact ⟨fun h => h.2, fun h => ⟨bit_small hS h, h⟩⟩
theorem cellsN_lt {S j : Nat} (h : j ∈ cellsN S) : j < 9 := by unfold cellsN at h; exact List.mem_range.1 (List.mem_filter.1 h).1
theorem cellsN_nodup (S : Nat) : (cellsN S).Nodup := List.nodup_range.filter _
theorem cellsN_without (S c : Nat) : cellsN (without S c) = (cellsN S).erase c := by
  rw [(cellsN_nodup S).erase_eq_filter]
  unfold cellsN
  rw [List.filter_filter]
  apply List.filter_congr
  intro j _
  rw [without_bit, Bool.and_comm]
  by_cases hj : j = c <;> simp [hj]
theorem cellsN_perm {S c : Nat} (hS : S < 2 ^ 9) (hc : S.testBit c = true) : (cellsN S).Perm (c :: cellsN (without S c)) := by
  rw [cellsN_without]; exact List.perm_cons_erase ((cellsN_mem hS).2 hc)
theorem perm_of_mem {l l' : List Nat} (h : l.Nodup) (h' : l'.Nodup) (hm : ∀ j, j ∈ l ↔ j ∈ l') : l.Perm l' := by
  rw [List.perm_iff_count]
  intro j
  rw [h.count, h'.count]
  by_cases e : j ∈ l
  · rw [if_pos e, if_pos ((hm j).1 e)]
  · rw [if_neg e, if_neg (fun hh => e ((hm j).2 hh))]
theorem cnt_moved {J J' : Nat → Bool} {f : Nat → Nat} {n : Nat} (hn : n ≤ 9) (hf : Perm f n) (hJ : ∀ S, S < 2 ^ n → J' (moved f S n) = J S) : ∀ {l : List Nat} {s : Nat}, s < 2 ^ n → (∀ j ∈ l, j < n) → cntN J' (moved f s n) (l.map f) = cntN J s l
  | [], s, hs, _ => by rw [List.map_nil, cntN, cntN, hJ s hs]
  | c :: l, s, hs, hl => by
    have hc := hl c (List.mem_cons_self ..)
    have hl' : ∀ j ∈ l, j < n := fun j hj => hl j (List.mem_cons_of_mem _ hj)
    rw [List.map_cons, cntN, cntN, cnt_moved hn hf hJ hs hl', ← moved_put hc, cnt_moved hn hf hJ (with_lt hs hc) hl']
theorem cellsN_moved {f : Nat → Nat} {n S : Nat} (hn : n ≤ 9) (hf : Perm f n) (hS : S < 2 ^ n) : (cellsN (moved f S n)).Perm ((cellsN S).map f) := by
  have hS9 : S < 2 ^ 9 := Nat.lt_of_lt_of_le hS (Nat.pow_le_pow_right (by decide) hn)
  have hm9 : moved f S n < 2 ^ 9 := Nat.lt_of_lt_of_le (moved_lt hf) (Nat.pow_le_pow_right (by decide) hn)
  refine perm_of_mem (cellsN_nodup _) ?_ fun j => ?_
  · rw [List.Nodup, List.pairwise_map]
    refine List.Pairwise.imp_of_mem (fun {x y} hx hy hne he => hne (hf.inj x y (bit_small hS ((cellsN_mem hS9).1 hx)) (bit_small hS ((cellsN_mem hS9).1 hy)) he)) (cellsN_nodup S)
  · rw [cellsN_mem hm9, moved_bit, List.mem_map]
    constructor
    · rintro ⟨k, _, h2, rfl⟩; exact ⟨k, (cellsN_mem hS9).2 h2, rfl⟩
    · rintro ⟨k, h1, rfl⟩
      have := (cellsN_mem hS9).1 h1
      exact ⟨k, bit_small hS this, this, rfl⟩

/-! ### played to the last cell -/
def fullF (R C : Nat) : Nat → Nat → Nat → Nat → Nat
  | 0, a, _, _ => if joinsN R C 1 a = true then 1 else 2
  | m + 1, a, b, t => if ((List.range (R * C)).any fun k => !(a ||| b).testBit k && decide (fullF R C m (putA t k a) (putB t k b) (3 - t) = t)) = true then t else 3 - t
theorem fr_put_eq {n t k a b : Nat} (hk : k < n) (h : (a ||| b).testBit k = false) : frN n (putA t k a) (putB t k b) + 1 = frN n a b := by
  unfold frN
  have : ∀ m, (List.range m).countP (fun j => !(putA t k a ||| putB t k b).testBit j) + (if k < m then 1 else 0) = (List.range m).countP (fun j => !(a ||| b).testBit j) := by
    intro m
    induction m with
    | zero => simp
    | succ m ih =>
      rw [List.range_succ, List.countP_append, List.countP_append, List.countP_singleton, List.countP_singleton, put_bit]
      by_cases hkm : m = k
      · subst hkm
        rw [h]
        simp at ih ⊢
        omega
      · have hd : decide (m = k) = false := decide_eq_false hkm
        rw [hd, Bool.or_false]
        have : (if k < m + 1 then 1 else 0) = (if k < m then 1 else 0) := by
          by_cases hh : k < m
          · rw [if_pos hh, if_pos (by omega)]
          · rw [if_neg hh, if_neg (by omega)]
        rw [this]
        omega
  have h2 := this n
  rw [if_pos hk] at h2
  exact h2
theorem fr_pos {n a b m : Nat} (h : frN n a b = m + 1) : ∃ k, k < n ∧ (a ||| b).testBit k = false := by
  unfold frN at h
  obtain ⟨k, h1, h2⟩ := List.countP_pos_iff.1 (show 0 < _ by rw [h]; omega)
  exact ⟨k, List.mem_range.1 h1, by simpa using h2⟩
theorem full_win {R C : Nat} (hB : BoardOf R C) : ∀ (m a b t : Nat), Pos R C a b → (t = 1 ∨ t = 2) → frN (R * C) a b = m → winN R C a b t = fullF R C m a b t := by
  intro m
  induction m with
  | zero =>
    intro a b t hp ht hm
    rw [fullF]
    cases j1 : joinsN R C 1 a with
    | true => rw [win_first j1]; rfl
    | false =>
      cases j2 : joinsN R C 2 b with
      | true => rw [win_second hB hp j2]; rfl
      | false =>
        obtain ⟨k, hk, hf⟩ := hp.free hB j1 j2
        rw [fr_zero (by omega) hk] at hf; cases hf
  | succ m ih =>
    intro a b t hp ht hm
    have ht' : 3 - t = 1 ∨ 3 - t = 2 := by omega
    have hany : ((List.range (R * C)).any fun k => !(a ||| b).testBit k && decide (fullF R C m (putA t k a) (putB t k b) (3 - t) = t)) = moveB R C a b t := by
      unfold moveB
      rw [Bool.eq_iff_iff, List.any_eq_true, List.any_eq_true]
      refine exists_congr fun k => and_congr_right fun hk => ?_
      rw [← Bool.eq_iff_iff]
      cases e : (a ||| b).testBit k with
      | true => rfl
      | false =>
        have hk' := List.mem_range.1 hk
        rw [ih _ _ _ (hp.put hk' e) ht' (by have := fr_put_eq (t := t) hk' e; omega)]
    rw [fullF, hany]
    obtain ⟨k, hk, hf⟩ := fr_pos hm
    have l9 := hp.lt9 hB
    cases j1 : joinsN R C 1 a with
    | true =>
      rw [win_first j1]
      have hall : ∀ k, k < R * C → (a ||| b).testBit k = false → winN R C (putA t k a) (putB t k b) (3 - t) = 1 := fun k hk hf => by
        have l9' := (hp.put (t := t) hk hf).lt9 hB
        refine win_first (joins_mono l9.1 l9'.1 (fun j hj => ?_) j1)
        unfold putA; split
        · rw [with_bit, hj]; rfl
        · exact hj
      rcases ht with rfl | rfl
      · rw [if_pos (moveB_iff.2 ⟨k, hk, hf, hall k hk hf⟩)]
      · rw [if_neg]
        intro hmv
        obtain ⟨i, hi, hfi, hwi⟩ := moveB_iff.1 hmv
        rw [hall i hi hfi] at hwi; cases hwi
    | false =>
      cases j2 : joinsN R C 2 b with
      | true =>
        rw [win_second hB hp j2]
        have hall : ∀ k, k < R * C → (a ||| b).testBit k = false → winN R C (putA t k a) (putB t k b) (3 - t) = 2 := fun k hk hf => by
          have hpp := hp.put (t := t) hk hf
          have l9' := hpp.lt9 hB
          refine win_second hB hpp (joins_mono l9.2 l9'.2 (fun j hj => ?_) j2)
          unfold putB; split
          · exact hj
          · rw [with_bit, hj]; rfl
        rcases ht with rfl | rfl
        · rw [if_neg]
          intro hmv
          obtain ⟨i, hi, hfi, hwi⟩ := moveB_iff.1 hmv
          rw [hall i hi hfi] at hwi; cases hwi
        · rw [if_pos (moveB_iff.2 ⟨k, hk, hf, hall k hk hf⟩)]
      | false => rw [win_open j1 j2]

/-- Positions with the same free cells, whose fillings are won alike, are won alike. -/
theorem full_congr {R C : Nat} : ∀ (m a b a' b' t : Nat), (∀ j, (a ||| b).testBit j = (a' ||| b').testBit j) → (∀ F, (∀ j, F.testBit j = true → j < R * C ∧ (a ||| b).testBit j = false) → joinsN R C 1 (a ||| F) = joinsN R C 1 (a' ||| F)) → fullF R C m a b t = fullF R C m a' b' t := by
  intro m
  induction m with
  | zero =>
    intro a b a' b' t _ hj
    have := hj 0 fun j h => by rw [Nat.zero_testBit] at h; cases h
    rw [Nat.or_zero, Nat.or_zero] at this
    rw [fullF, fullF, this]
  | succ m ih =>
    intro a b a' b' t hf hj
    rw [fullF, fullF]
    have : ((List.range (R * C)).any fun k => !(a ||| b).testBit k && decide (fullF R C m (putA t k a) (putB t k b) (3 - t) = t)) = ((List.range (R * C)).any fun k => !(a' ||| b').testBit k && decide (fullF R C m (putA t k a') (putB t k b') (3 - t) = t)) := by
      rw [Bool.eq_iff_iff, List.any_eq_true, List.any_eq_true]
      refine exists_congr fun k => and_congr_right fun hk => ?_
      rw [← Bool.eq_iff_iff, ← hf k]
      cases e : (a ||| b).testBit k with
      | true => rfl
      | false =>
        have hk' := List.mem_range.1 hk
        rw [ih (putA t k a) (putB t k b) (putA t k a') (putB t k b') (3 - t) (fun j => by rw [put_bit, put_bit, hf j]) fun F hF => ?_]
        have hF' : ∀ j, F.testBit j = true → j < R * C ∧ (a ||| b).testBit j = false := fun j hj => by
          have := hF j hj
          rw [put_bit, Bool.or_eq_false_iff] at this
          exact ⟨this.1, this.2.1⟩
        unfold putA
        split
        · have h1 := hj ((1 <<< k) ||| F) fun j hjj => by
            rw [Nat.testBit_or, one_bit, Bool.or_eq_true, decide_eq_true_eq] at hjj
            rcases hjj with rfl | hjj
            · exact ⟨hk', e⟩
            · exact hF' j hjj
          rw [Nat.or_assoc, Nat.or_assoc]; exact h1
        · exact hj F hF'
    rw [this]

/-- A cell that does not matter: whoever has a stone on it, the winner is the same. -/
theorem dead_win {R C a b c t : Nat} (hB : BoardOf R C) (hp : Pos R C a b) (hc : c < R * C) (hcf : (a ||| b).testBit c = false) (ht : t = 1 ∨ t = 2)
    (hd : ∀ F, (∀ j, F.testBit j = true → j < R * C ∧ (a ||| b).testBit j = false ∧ j ≠ c) → joinsN R C 1 (a ||| (1 <<< c) ||| F) = joinsN R C 1 (a ||| F)) :
    winN R C (putA 1 c a) (putB 1 c b) t = winN R C a b t ∧ winN R C (putA 2 c a) (putB 2 c b) t = winN R C a b t := by
  have hp1 := hp.put (t := 1) hc hcf
  have hp2 := hp.put (t := 2) hc hcf
  have hfr1 := fr_put_eq (t := 1) hc hcf
  have hfr2 := fr_put_eq (t := 2) hc hcf
  have heq : winN R C (putA 1 c a) (putB 1 c b) t = winN R C (putA 2 c a) (putB 2 c b) t := by
    rw [full_win hB _ _ _ t hp1 ht rfl, full_win hB _ _ _ t hp2 ht rfl, show frN (R * C) (putA 1 c a) (putB 1 c b) = frN (R * C) (putA 2 c a) (putB 2 c b) by omega]
    refine full_congr _ _ _ _ _ t (fun j => by rw [put_bit, put_bit]) fun F hF => ?_
    exact hd F fun j hj => by
      have := hF j hj
      rw [put_bit, Bool.or_eq_false_iff, decide_eq_false_iff_not] at this
      exact ⟨this.1, this.2.1, this.2.2⟩
  have b1 : Better a b (putA 1 c a) (putB 1 c b) := ⟨fun j hj => by show (a ||| (1 <<< c)).testBit j = true; rw [with_bit, hj]; rfl, fun _ h => h⟩
  have b2 : Better (putA 2 c a) (putB 2 c b) a b := ⟨fun _ h => h, fun j hj => by show (b ||| (1 <<< c)).testBit j = true; rw [with_bit, hj]; rfl⟩
  rcases win_cases (R := R) (C := C) (a := a) (b := b) ht with h | h
  · have h1 := win_mono hB hp hp1 b1 ht h
    exact ⟨by rw [h1, h], by rw [← heq, h1, h]⟩
  · have h2 := win_mono2 hB hp2 hp b2 ht h
    exact ⟨by rw [heq, h2, h], by rw [h2, h]⟩

end Go.Proofs.YtfgjbfaapbhppaaDoor

/- What chapter 5's functions tell of a position (countL, pivotL, mattersL, deadL), and what holds of them. No program text. -/
namespace Go.Proofs.YtfgjbfaapbhppaaDoor
open Go Go.Ip G

def countL (r c : Int) (xs : List Int) (P : Int) : Int := if (posB r c xs && playerB P) = true then ((cntN (joinsN r.toNat c.toNat P.toNat) (setL xs P) (cellsN (setL xs 0)) : Nat) : Int) else -1
def freeAt (r c : Int) (xs : List Int) (k : Int) : Bool := posB r c xs && decide (0 ≤ k ∧ k < (xs.length : Int)) && decide (xs.getD k.toNat 0 = 0)
def pivotL (r c : Int) (xs : List Int) (k : Int) : Int := if freeAt r c xs k = true then ((cntN (pivJ (joinsN r.toNat c.toNat 1) k.toNat) (setL xs 1) (cellsN (without (setL xs 0) k.toNat)) : Nat) : Int) else -1
def mattersL (r c : Int) (xs : List Int) (k : Int) : Bool := decide (0 < pivotL r c xs k)
def deadB (r c : Int) (xs : List Int) (k : Nat) : Bool := freeAt r c xs (k : Int) && !mattersL r c xs (k : Int)
def deadL (r c : Int) (xs : List Int) : List Int := ((List.range xs.length).filter (deadB r c xs)).map fun k : Nat => (k : Int)

theorem freeAt_iff {r c : Int} {xs : List Int} {k : Nat} : freeAt r c xs (k : Int) = true ↔ posB r c xs = true ∧ xs[k]? = some 0 := by
  unfold freeAt
  simp only [Bool.and_eq_true, decide_eq_true_eq]
  constructor
  · rintro ⟨⟨h1, h2⟩, h3⟩
    have hk : k < xs.length := by omega
    refine ⟨h1, ?_⟩
    rw [List.getElem?_eq_getElem hk]
    have : xs.getD k 0 = xs[k] := by rw [List.getD_eq_getElem?_getD, List.getElem?_eq_getElem hk]; rfl
    rw [← this]
    exact congrArg some h3
  · rintro ⟨h1, h2⟩
    have hk : k < xs.length := (List.getElem?_eq_some_iff.1 h2).1
    refine ⟨⟨h1, by omega⟩, ?_⟩
    show xs.getD k 0 = 0
    rw [List.getD_eq_getElem?_getD, h2]; rfl
theorem freeAt_cell {r c : Int} {xs : List Int} {k : Int} (h : freeAt r c xs k = true) : ∃ K : Nat, k = (K : Int) ∧ K < xs.length := by
  unfold freeAt at h
  simp only [Bool.and_eq_true, decide_eq_true_eq] at h
  obtain ⟨K, rfl⟩ := Int.eq_ofNat_of_zero_le h.1.2.1
  exact ⟨K, rfl, by omega⟩
theorem countL_none {r c : Int} {xs : List Int} {pl : Int} (h : posB r c xs = false ∨ 2 < pl) : countL r c xs pl = -1 := by
  unfold countL
  rw [if_neg]
  rcases h with h | h
  · rw [h]; simp
  · rw [playerB_none h]; simp
theorem countL_big (r c : Int) (xs : List Int) (P : Int) : -1 ≤ countL r c xs P ∧ countL r c xs P ≤ 512 := by
  unfold countL
  split
  · have h1 := cnt_le (joinsN r.toNat c.toNat P.toNat) (cellsN (setL xs 0)) (setL xs P)
    have h2 : (cellsN (setL xs 0)).length ≤ 9 := by
      unfold cellsN; have := List.length_filter_le (setL xs 0).testBit (List.range 9); rw [List.length_range] at this; exact this
    have h3 : 2 ^ (cellsN (setL xs 0)).length ≤ 2 ^ 9 := Nat.pow_le_pow_right (by decide) h2
    omega
  · omega
theorem pivotL_big (r c : Int) (xs : List Int) (k : Int) : -1 ≤ pivotL r c xs k ∧ pivotL r c xs k ≤ 512 := by
  unfold pivotL
  split
  · have h1 := cnt_le (pivJ (joinsN r.toNat c.toNat 1) k.toNat) (cellsN (without (setL xs 0) k.toNat)) (setL xs 1)
    have h2 : (cellsN (without (setL xs 0) k.toNat)).length ≤ 9 := by
      unfold cellsN; have := List.length_filter_le (without (setL xs 0) k.toNat).testBit (List.range 9); rw [List.length_range] at this; exact this
    have h3 : 2 ^ (cellsN (without (setL xs 0) k.toNat)).length ≤ 2 ^ 9 := Nat.pow_le_pow_right (by decide) h2
    omega
  · omega
theorem deadL_none {r c : Int} {xs : List Int} (h : posB r c xs = false) : deadL r c xs = [] := by
  unfold deadL
  rw [List.filter_eq_nil_iff.2 fun k _ => by unfold deadB freeAt; rw [h]; simp]
  rfl
theorem deadL_length (r c : Int) (xs : List Int) : (deadL r c xs).length ≤ xs.length := by
  unfold deadL
  rw [List.length_map]
  have := List.length_filter_le (deadB r c xs) (List.range xs.length)
  rw [List.length_range] at this; exact this
theorem deadL_sorted (r c : Int) (xs : List Int) : (deadL r c xs).Pairwise (· < ·) := by
  unfold deadL
  rw [List.pairwise_map]
  exact ((List.pairwise_lt_range).filter _).imp fun h => by omega
theorem deadL_mem {r c : Int} {xs : List Int} {e : Int} : e ∈ deadL r c xs ↔ ∃ k : Nat, e = (k : Int) ∧ deadB r c xs k = true := by
  unfold deadL
  rw [List.mem_map]
  constructor
  · rintro ⟨k, hk, rfl⟩
    exact ⟨k, rfl, (List.mem_filter.1 hk).2⟩
  · rintro ⟨k, rfl, hk⟩
    refine ⟨k, List.mem_filter.2 ⟨List.mem_range.2 ?_, hk⟩, rfl⟩
    unfold deadB at hk
    rw [Bool.and_eq_true] at hk
    exact (List.getElem?_eq_some_iff.1 (freeAt_iff.1 hk.1).2).1
theorem dead_in {r c : Int} {xs : List Int} {k : Nat} : decide ((k : Int) ∈ deadL r c xs) = deadB r c xs k := by
  rw [Bool.eq_iff_iff, decide_eq_true_iff, deadL_mem]
  constructor
  · rintro ⟨j, hj, hw⟩
    have : k = j := by omega
    rw [this]; exact hw
  · intro h; exact ⟨k, rfl, h⟩

section
variable {R C : Nat} {xs : List Int} (hb : posB (R : Int) (C : Int) xs = true) (hS : Sides (R : Int) (C : Int) R C xs)
include hS
theorem cover_of : Cover R C (setL xs 1) (setL xs 2) (cellsN (setL xs 0)) := by
  refine ⟨pos_sets hS, cellsN_nodup _, fun j => ?_⟩
  rw [cellsN_mem (set_lt9 hS 0)]
  constructor
  · intro h
    have hj := set_in hS h
    exact ⟨hj, (free_bit hS hj).2 (setL_bit.1 h)⟩
  · rintro ⟨hj, hf⟩
    exact setL_bit.2 ((free_bit hS hj).1 hf)
theorem cells_len : (cellsN (setL xs 0)).length = xs.count 0 := by
  rw [← pop_count (by have := hS.2.2.2.2.2.2.2.1; have := hS.2.2.2.2.2.2.1; omega)]
  unfold cellsN pop
  rw [List.countP_eq_length_filter]
omit hS
include hb
theorem countL_eq {P : Nat} (hP : P = 1 ∨ P = 2) : countL (R : Int) (C : Int) xs (P : Int) = ((cntN (joinsN R C P) (setL xs (P : Int)) (cellsN (setL xs 0)) : Nat) : Int) := by
  unfold countL; rw [hb, playerB_of hP]; rfl
theorem pivotL_eq {k : Nat} (hk : xs[k]? = some 0) : pivotL (R : Int) (C : Int) xs (k : Int) = ((cntN (pivJ (joinsN R C 1) k) (setL xs 1) (cellsN (without (setL xs 0) k)) : Nat) : Int) := by
  unfold pivotL; rw [freeAt_iff.2 ⟨hb, hk⟩]; rfl
include hS
/-- With a stone of the player, or of the other one, on a free cell. -/
theorem countL_set {P Q k : Nat} (hP : P = 1 ∨ P = 2) (hQ : Q = 1 ∨ Q = 2) (hk : xs[k]? = some 0) : countL (R : Int) (C : Int) (xs.set k (Q : Int)) (P : Int) = ((cntN (joinsN R C P) (if P = Q then setL xs (P : Int) ||| (1 <<< k) else setL xs (P : Int)) (cellsN (without (setL xs 0) k)) : Nat) : Int) := by
  rw [countL_eq (pos_set hb hQ k) hP, (set_more hS hQ hk).2.1]
  have h := set_putA hQ hk
  congr 2
  rcases hP with rfl | rfl <;> rcases hQ with rfl | rfl
  · exact h.1
  · exact h.1
  · exact h.2
  · exact h.2
/-- Both players have together all fillings. -/
theorem count_both {P : Nat} (hP : P = 1 ∨ P = 2) : countL (R : Int) (C : Int) xs (P : Int) + countL (R : Int) (C : Int) xs ((3 - P : Nat) : Int) = ((2 ^ (xs.count 0) : Nat) : Int) := by
  have hO : 3 - P = 1 ∨ 3 - P = 2 := by omega
  rw [countL_eq hb hP, countL_eq hb hO, ← cells_len hS]
  have := cnt_sumP (board_of_sides hS) hP (cover_of hS)
  rw [← this, Int.natCast_add]
  rcases hP with rfl | rfl <;> rfl
theorem count_split {P k : Nat} (hP : P = 1 ∨ P = 2) (hk : xs[k]? = some 0) : countL (R : Int) (C : Int) (xs.set k (P : Int)) (P : Int) + countL (R : Int) (C : Int) (xs.set k ((3 - P : Nat) : Int)) (P : Int) = countL (R : Int) (C : Int) xs (P : Int) ∧ countL (R : Int) (C : Int) (xs.set k ((3 - P : Nat) : Int)) (P : Int) ≤ countL (R : Int) (C : Int) (xs.set k (P : Int)) (P : Int) := by
  have hO : 3 - P = 1 ∨ 3 - P = 2 := by omega
  have hk9 : k < 9 := by have := (List.getElem?_eq_some_iff.1 hk).1; have := hS.2.2.2.2.2.2.2.1; have := hS.2.2.2.2.2.2.1; omega
  rw [countL_set hb hS hP hP hk, countL_set hb hS hP hO hk, countL_eq hb hP, if_pos rfl, if_neg (by omega), cnt_perm (cellsN_perm (set_lt9 hS 0) (setL_bit.2 hk)), cntN]
  have := cnt_mono (joins_monoB R C P) hk9 (l := cellsN (without (setL xs 0) k)) (set_lt9 hS (P : Int)) fun j hj => cellsN_lt hj
  omega
theorem count_none_free {P : Nat} (hP : P = 1 ∨ P = 2) (h0 : xs.count 0 = 0) : countL (R : Int) (C : Int) xs (P : Int) = if joinsL (R : Int) (C : Int) xs (P : Int) = true then 1 else 0 := by
  have hl : cellsN (setL xs 0) = [] := List.eq_nil_of_length_eq_zero (by rw [cells_len hS, h0])
  rw [countL_eq hb hP, hl, cntN, joinsL_eq hb hP]
  split <;> rfl
/-- What a stone of the first player adds. -/
theorem pivot_diff {k : Nat} (hk : xs[k]? = some 0) : countL (R : Int) (C : Int) (xs.set k 1) 1 - countL (R : Int) (C : Int) (xs.set k 2) 1 = pivotL (R : Int) (C : Int) xs (k : Int) := by
  have hk9 : k < 9 := by have := (List.getElem?_eq_some_iff.1 hk).1; have := hS.2.2.2.2.2.2.2.1; have := hS.2.2.2.2.2.2.1; omega
  have e1 := countL_set hb hS (P := 1) (Q := 1) (.inl rfl) (.inl rfl) hk
  have e2 := countL_set hb hS (P := 1) (Q := 2) (.inl rfl) (.inr rfl) hk
  have h := cnt_pivot (joins_monoB R C 1) hk9 (l := cellsN (without (setL xs 0) k)) (set_lt9 hS 1) fun j hj => cellsN_lt hj
  rw [if_pos rfl] at e1
  rw [if_neg (by decide)] at e2
  have e1' : countL (R : Int) (C : Int) (xs.set k 1) 1 = _ := e1
  have e2' : countL (R : Int) (C : Int) (xs.set k 2) 1 = _ := e2
  rw [e1', e2', pivotL_eq hb hk]
  show ((cntN (joinsN R C 1) (setL xs 1 ||| 1 <<< k) (cellsN (without (setL xs 0) k)) : Nat) : Int) - ((cntN (joinsN R C 1) (setL xs 1) (cellsN (without (setL xs 0) k)) : Nat) : Int) = _
  omega
/-- It is as much for the second player. -/
theorem pivot_second {k : Nat} (hk : xs[k]? = some 0) : ((cntN (pivJ (joinsN R C 2) k) (setL xs 2) (cellsN (without (setL xs 0) k)) : Nat) : Int) = pivotL (R : Int) (C : Int) xs (k : Int) := by
  have hk9 : k < 9 := by have := (List.getElem?_eq_some_iff.1 hk).1; have := hS.2.2.2.2.2.2.2.1; have := hS.2.2.2.2.2.2.1; omega
  have hB := board_of_sides hS
  have hcov := cover_of hS
  have hcov' : Cover R C (setL xs 1) (setL xs 2) (k :: cellsN (without (setL xs 0) k)) := by
    have hp := cellsN_perm (set_lt9 hS 0) (setL_bit.2 hk)
    exact ⟨hcov.pos, hp.nodup_iff.1 hcov.nodup, fun j => by rw [← hp.mem_iff]; exact hcov.free j⟩
  have h1 : cntN (joinsN R C 1) (setL xs 1 ||| 1 <<< k) (cellsN (without (setL xs 0) k)) + cntN (joinsN R C 2) (setL xs 2) (cellsN (without (setL xs 0) k)) = _ := cnt_sum hB (hcov'.put 1)
  have h2 : cntN (joinsN R C 1) (setL xs 1) (cellsN (without (setL xs 0) k)) + cntN (joinsN R C 2) (setL xs 2 ||| 1 <<< k) (cellsN (without (setL xs 0) k)) = _ := cnt_sum hB (hcov'.put 2)
  have h3 := cnt_pivot (joins_monoB R C 1) hk9 (l := cellsN (without (setL xs 0) k)) (set_lt9 hS 1) fun j hj => cellsN_lt hj
  have h4 := cnt_pivot (joins_monoB R C 2) hk9 (l := cellsN (without (setL xs 0) k)) (set_lt9 hS 2) fun j hj => cellsN_lt hj
  rw [pivotL_eq hb hk]
  omega
/-- If somebody has joined no cell decides. -/
theorem pivot_done {k : Nat} (hk : xs[k]? = some 0) (hj : joinsL (R : Int) (C : Int) xs 1 = true ∨ joinsL (R : Int) (C : Int) xs 2 = true) : pivotL (R : Int) (C : Int) xs (k : Int) = 0 := by
  have hk9 : k < 9 := by have := (List.getElem?_eq_some_iff.1 hk).1; have := hS.2.2.2.2.2.2.2.1; have := hS.2.2.2.2.2.2.1; omega
  have key : ∀ (J : Nat → Bool), MonoB J → ∀ (l : List Nat) (s : Nat), s < 2 ^ 9 → (∀ j ∈ l, j < 9) → J s = true → cntN (pivJ J k) s l = 0 := by
    intro J hJ l
    induction l with
    | nil =>
      intro s hs _ hjs
      rw [cntN]; unfold pivJ; rw [hjs]; simp
    | cons c l ih =>
      intro s hs hl hjs
      have hc := hl c (List.mem_cons_self ..)
      rw [cntN, ih s hs (fun j hj => hl j (List.mem_cons_of_mem _ hj)) hjs, ih (s ||| 1 <<< c) (with_lt hs hc) (fun j hj => hl j (List.mem_cons_of_mem _ hj)) (hJ s _ hs (with_lt hs hc) (fun j hj => by rw [with_bit, hj]; rfl) hjs)]
  rcases hj with hj | hj
  · rw [joins_one hb] at hj
    rw [pivotL_eq hb hk, key _ (joins_monoB R C 1) _ _ (set_lt9 hS 1) (fun j hj => cellsN_lt hj) hj]; rfl
  · rw [joins_two hb] at hj
    rw [← pivot_second hb hS hk, key _ (joins_monoB R C 2) _ _ (set_lt9 hS 2) (fun j hj => cellsN_lt hj) hj]; rfl

/-! ### turned and mirrored -/
omit hb hS in
theorem pivJ_moved {R' C' P Q k : Nat} {f : Nat → Nat} (hf : Perm f (R * C)) (hk : k < R * C) (hj : ∀ S, S < 2 ^ (R * C) → joinsN R' C' Q (moved f S (R * C)) = joinsN R C P S) : ∀ S, S < 2 ^ (R * C) → pivJ (joinsN R' C' Q) (f k) (moved f S (R * C)) = pivJ (joinsN R C P) k S := fun S h => by
  unfold pivJ
  rw [← moved_put hk, hj _ (with_lt h hk), hj S h]
omit hb in
theorem piv_moved {R' C' P Q k : Nat} {f : Nat → Nat} (hf : Perm f (R * C)) (hk : k < R * C) (hj : ∀ S, S < 2 ^ (R * C) → joinsN R' C' Q (moved f S (R * C)) = joinsN R C P S) (w : Int) :
    cntN (pivJ (joinsN R' C' Q) (f k)) (moved f (setL xs w) (R * C)) (cellsN (without (moved f (setL xs 0) (R * C)) (f k))) = cntN (pivJ (joinsN R C P) k) (setL xs w) (cellsN (without (setL xs 0) k)) := by
  have h9 : R * C ≤ 9 := (board_of_sides hS).2.2.2.2
  have hwo : without (moved f (setL xs 0) (R * C)) (f k) = moved f (without (setL xs 0) k) (R * C) := by
    apply Nat.eq_of_testBit_eq
    intro j
    rw [Bool.eq_iff_iff, without_bit, Bool.and_eq_true, decide_eq_true_eq, moved_bit, moved_bit]
    constructor
    · rintro ⟨⟨i, hi, h1, rfl⟩, h2⟩
      exact ⟨i, hi, by rw [without_bit, h1]; simp; exact fun e => h2 (by rw [e]), rfl⟩
    · rintro ⟨i, hi, h1, rfl⟩
      rw [without_bit, Bool.and_eq_true, decide_eq_true_eq] at h1
      exact ⟨⟨i, hi, h1.1, rfl⟩, fun e => h1.2 (hf.inj i k hi hk e)⟩
  rw [hwo, cnt_perm (cellsN_moved h9 hf (without_lt (set_lt hS 0)))]
  exact cnt_moved h9 hf (pivJ_moved hf hk hj) (set_lt hS w) fun j hj => by
    have := (cellsN_mem (without_lt (set_lt9 hS 0))).1 hj
    rw [without_bit, Bool.and_eq_true] at this
    exact set_in hS this.1
theorem pivot_turned {k : Nat} (hk : xs[k]? = some 0) (hb' : posB (R : Int) (C : Int) xs.reverse = true) : pivotL (R : Int) (C : Int) xs.reverse ((R * C - 1 - k : Nat) : Int) = pivotL (R : Int) (C : Int) xs (k : Int) := by
  have hB := board_of_sides hS
  have hlen : xs.length = R * C := hS.2.2.2.2.2.2.2.1
  have hkl : k < R * C := by rw [← hlen]; exact (List.getElem?_eq_some_iff.1 hk).1
  have hk' : xs.reverse[R * C - 1 - k]? = some 0 := by
    rw [List.getElem?_reverse (by omega), hlen, show R * C - 1 - (R * C - 1 - k) = k by omega]; exact hk
  rw [pivotL_eq hb' hk', pivotL_eq hb hk, setL_reverse, setL_reverse, hlen]
  have := piv_moved hS (perm_turn (R * C)) hkl (P := 1) (Q := 1) (R' := R) (C' := C) (fun S h => (hex_moves hB h).1) 1
  exact congrArg Int.ofNat this
theorem mir_free {k : Nat} (hk : xs[k]? = some 0) : (mir R C xs)[sig C R k]? = some 0 := by
  have hB := board_of_sides hS
  have hlen : xs.length = R * C := hS.2.2.2.2.2.2.2.1
  have hkl : k < R * C := by rw [← hlen]; exact (List.getElem?_eq_some_iff.1 hk).1
  have hpm := (perm_sig hB).lt k hkl
  obtain ⟨h1, h2, h3, h4, h9⟩ := hB
  have hback : sig R C (sig C R k) = k := by
    have := (sig_lt h3 h4 h1 h2 (by rw [Nat.mul_comm]; exact h9) (show k < C * R by rw [Nat.mul_comm]; exact hkl)).2
    exact this
  rw [mir_get (by rw [hlen]; exact hpm), hback, List.getD_eq_getElem?_getD, hk]; rfl
theorem pivot_mirrored {k : Nat} (hk : xs[k]? = some 0) (hb' : posB (C : Int) (R : Int) (mir R C xs) = true) : pivotL (C : Int) (R : Int) (mir R C xs) ((sig C R k : Nat) : Int) = pivotL (R : Int) (C : Int) xs (k : Int) := by
  have hB := board_of_sides hS
  have hlen : xs.length = R * C := hS.2.2.2.2.2.2.2.1
  have hkl : k < R * C := by rw [← hlen]; exact (List.getElem?_eq_some_iff.1 hk).1
  have e1 : setL (mir R C xs) 1 = moved (sig C R) (setL xs 2) (R * C) := setL_mir hS 2
  have e0 : setL (mir R C xs) 0 = moved (sig C R) (setL xs 0) (R * C) := setL_mir hS 0
  rw [pivotL_eq hb' (mir_free hb hS hk), e1, e0, ← pivot_second hb hS hk]
  have := piv_moved hS (perm_sig hB) hkl (P := 2) (Q := 1) (R' := C) (C' := R) (fun S h => (hex_moves hB h).2.2.2) 2
  exact congrArg Int.ofNat this
theorem count_mirrored {P : Nat} (hP : P = 1 ∨ P = 2) (hb' : posB (C : Int) (R : Int) (mir R C xs) = true) : countL (C : Int) (R : Int) (mir R C xs) ((3 - P : Nat) : Int) = countL (R : Int) (C : Int) xs (P : Int) := by
  have hB := board_of_sides hS
  have h9 : R * C ≤ 9 := hB.2.2.2.2
  have hO : 3 - P = 1 ∨ 3 - P = 2 := by omega
  have e1 : setL (mir R C xs) ((3 - P : Nat) : Int) = moved (sig C R) (setL xs (P : Int)) (R * C) := by rw [← swap_player hP]; exact setL_mir hS (P : Int)
  have e0 : setL (mir R C xs) 0 = moved (sig C R) (setL xs 0) (R * C) := setL_mir hS 0
  rw [countL_eq hb' hO, countL_eq hb hP, e1, e0, cnt_perm (cellsN_moved h9 (perm_sig hB) (set_lt hS 0))]
  have := cnt_moved (J := joinsN R C P) (J' := joinsN C R (3 - P)) (f := sig C R) (l := cellsN (setL xs 0)) (s := setL xs (P : Int)) h9 (perm_sig hB) (fun S h => by
    rcases hP with rfl | rfl
    · exact (hex_moves hB h).2.2.1
    · exact (hex_moves hB h).2.2.2) (set_lt hS (P : Int)) fun j hj => set_in hS ((cellsN_mem (set_lt9 hS 0)).1 hj)
  exact congrArg Int.ofNat this

/-! ### dead cells -/
theorem dead_iff {k : Nat} : deadB (R : Int) (C : Int) xs k = true ↔ xs[k]? = some 0 ∧ cntN (pivJ (joinsN R C 1) k) (setL xs 1) (cellsN (without (setL xs 0) k)) = 0 := by
  unfold deadB mattersL
  rw [Bool.and_eq_true, freeAt_iff, Bool.not_eq_true', decide_eq_false_iff_not]
  constructor
  · rintro ⟨⟨_, hk⟩, h⟩
    rw [pivotL_eq hb hk] at h
    exact ⟨hk, by omega⟩
  · rintro ⟨hk, h⟩
    rw [pivotL_eq hb hk]
    exact ⟨⟨hb, hk⟩, by omega⟩
/-- Stones on dead cells change nothing. -/
theorem dead_winL {P T k : Nat} (hP : P = 1 ∨ P = 2) (hT : T = 1 ∨ T = 2) (hd : deadB (R : Int) (C : Int) xs k = true) : winL (R : Int) (C : Int) (xs.set k (P : Int)) (T : Int) = winL (R : Int) (C : Int) xs (T : Int) := by
  obtain ⟨hk, hz⟩ := (dead_iff hb hS).1 hd
  have hlen : xs.length = R * C := hS.2.2.2.2.2.2.2.1
  have hkl : k < R * C := by rw [← hlen]; exact (List.getElem?_eq_some_iff.1 hk).1
  have hB := board_of_sides hS
  have h9 : R * C ≤ 9 := hB.2.2.2.2
  have hm := joins_monoB R C 1
  have := dead_win hB (pos_sets hS) hkl ((free_bit hS hkl).2 hk) hT fun F hF => by
    have hFl : F < 2 ^ 9 := Nat.lt_pow_two_of_testBit F fun i hi => by
      cases e : F.testBit i with
      | false => rfl
      | true => have := (hF i e).1; omega
    have h1 := cnt_zero hz F fun j hj => by
      rw [cellsN_mem (without_lt (set_lt9 hS 0)), without_bit, Bool.and_eq_true, decide_eq_true_eq]
      have := hF j hj
      exact ⟨setL_bit.2 ((free_bit hS this.1).1 this.2.1), this.2.2⟩
    unfold pivJ at h1
    have hsl := set_lt9 hS 1
    have e : setL xs 1 ||| F ||| 1 <<< k = setL xs 1 ||| 1 <<< k ||| F := by rw [Nat.or_assoc, Nat.or_comm F, ← Nat.or_assoc]
    rw [e] at h1
    have hor : setL xs 1 ||| F < 2 ^ 9 := Nat.or_lt_two_pow hsl hFl
    cases e1 : joinsN R C 1 (setL xs 1 ||| 1 <<< k ||| F) with
    | false =>
      cases e2 : joinsN R C 1 (setL xs 1 ||| F) with
      | false => rfl
      | true =>
        have := hm _ (setL xs 1 ||| 1 <<< k ||| F) hor (Nat.or_lt_two_pow (with_lt hsl (by omega)) hFl) (fun j hj => by
          rw [Nat.testBit_or, Bool.or_eq_true] at hj
          rw [Nat.testBit_or, with_bit]
          rcases hj with hj | hj <;> rw [hj] <;> simp) e2
        rw [e1] at this; cases this
    | true =>
      rw [e1] at h1
      cases e2 : joinsN R C 1 (setL xs 1 ||| F) with
      | true => rfl
      | false => rw [e2] at h1; cases h1
  rw [winL_set hb hP hT hk, winL_eq hb hT]
  rcases hP with rfl | rfl
  · rw [this.1]
  · rw [this.2]
/-- Other dead cells stay dead. -/
theorem dead_stays {P k d : Nat} (hP : P = 1 ∨ P = 2) (hk : xs[k]? = some 0) (hd : deadB (R : Int) (C : Int) xs d = true) (hne : d ≠ k) : deadB (R : Int) (C : Int) (xs.set k (P : Int)) d = true := by
  obtain ⟨hd0, hz⟩ := (dead_iff hb hS).1 hd
  have hb2 := pos_set hb hP k
  have hS2 := sides_set hb hS (k := k) hP
  refine (dead_iff hb2 hS2).2 ⟨by rw [List.getElem?_set_ne (by omega)]; exact hd0, ?_⟩
  rw [(set_more hS hP hk).2.1, (set_putA hP hk).1]
  have hw : without (without (setL xs 0) k) d = without (without (setL xs 0) d) k := by
    apply Nat.eq_of_testBit_eq; intro j
    rw [without_bit, without_bit, without_bit, without_bit, Bool.and_right_comm]
  have hkd : (without (setL xs 0) d).testBit k = true := by rw [without_bit, setL_bit.2 hk]; simp; omega
  rw [cnt_perm (cellsN_perm (without_lt (set_lt9 hS 0)) hkd), cntN] at hz
  rw [hw]
  rcases hP with rfl | rfl
  · show cntN _ (setL xs 1 ||| 1 <<< k) _ = 0; omega
  · show cntN _ (setL xs 1) _ = 0; omega
end

/-- On the free board of a square each player has half. -/
theorem square_half {R P : Nat} (hB : BoardOf R R) (hP : P = 1 ∨ P = 2) : 2 * countL (R : Int) (R : Int) (freeL R R) (P : Int) = ((2 ^ (R * R) : Nat) : Int) := by
  have hb := free_pos hB
  have hS := sides_free hB
  have hmf : mir R R (freeL R R) = freeL R R := by
    apply List.ext_getElem?
    intro j
    have hl : (freeL R R).length = R * R := by simp [freeL]
    by_cases hj : j < R * R
    · rw [mir_get (by rw [hl]; exact hj)]
      have hs : sig R R j < R * R := (perm_sig hB).lt j hj
      rw [List.getD_eq_getElem?_getD, free_get.2 hs, free_get.2 hj]; rfl
    · rw [List.getElem?_eq_none (by rw [mir_length]; omega), List.getElem?_eq_none (by omega)]
  have h1 := count_mirrored hb hS hP (by rw [hmf]; exact hb)
  rw [hmf] at h1
  have h2 := count_both hb hS hP
  have hc : (freeL R R).count 0 = R * R := by unfold freeL; rw [List.count_replicate_self]
  rw [hc, h1] at h2
  omega

end Go.Proofs.YtfgjbfaapbhppaaDoor

/- Carriers and threats: what holds of positions whose free cells outside a set are given to the other player. No program text. -/
namespace Go.Proofs.YtfgjbfaapbhppaaDoor
open Go Go.Ip G

def givenAt (xs : List Int) (P : Int) (S j : Nat) : Int := if xs.getD j 0 = 0 ∧ S.testBit j = false then 3 - P else xs.getD j 0
def givenL (xs : List Int) (P : Int) (S : Nat) : List Int := (List.range xs.length).map (givenAt xs P S)
theorem givenL_length (xs : List Int) (P : Int) (S : Nat) : (givenL xs P S).length = xs.length := by simp [givenL]
theorem givenL_get {xs : List Int} {P : Int} {S j : Nat} (hj : j < xs.length) : (givenL xs P S)[j]? = some (givenAt xs P S j) := by
  unfold givenL; rw [List.getElem?_map, List.getElem?_range hj]; rfl
theorem getD_of {xs : List Int} {j : Nat} {v : Int} (h : xs[j]? = some v) : xs.getD j 0 = v := by rw [List.getD_eq_getElem?_getD, h]; rfl
theorem get_of {xs : List Int} {j : Nat} (h : j < xs.length) : xs[j]? = some (xs.getD j 0) := by rw [List.getD_eq_getElem?_getD, List.getElem?_eq_getElem h]; rfl

/-- No worse for the player. -/
def NoWorse (P : Int) (xs ys : List Int) : Prop := (∀ j : Nat, xs[j]? = some P → ys[j]? = some P) ∧ (∀ j : Nat, ys[j]? = some (3 - P) → xs[j]? = some (3 - P))

section
variable {R C : Nat} {xs ys : List Int} (hb : posB (R : Int) (C : Int) xs = true) (hb' : posB (R : Int) (C : Int) ys = true)
include hb
theorem sides_pos : Sides (R : Int) (C : Int) R C xs := by
  obtain ⟨R', C', hS⟩ := sides_of hb
  have e1 : R' = R := by have := hS.1; omega
  have e2 : C' = C := by have := hS.2.1; omega
  rw [e1, e2] at hS; exact hS
include hb'
theorem winL_better {P T : Nat} (hP : P = 1 ∨ P = 2) (hT : T = 1 ∨ T = 2) (h : NoWorse (P : Int) xs ys) (hw : winL (R : Int) (C : Int) xs (T : Int) = (P : Int)) : winL (R : Int) (C : Int) ys (T : Int) = (P : Int) := by
  have hS := sides_pos hb
  have hS' := sides_pos hb'
  rw [winL_eq hb hT] at hw
  have hw' := Int.ofNat_inj.1 hw
  rw [winL_eq hb' hT]
  rcases hP with rfl | rfl
  · rw [win_mono (board_of_sides hS) (pos_sets hS) (pos_sets hS') ⟨fun j hj => setL_bit.2 (h.1 j (setL_bit.1 hj)), fun j hj => setL_bit.2 (h.2 j (setL_bit.1 hj))⟩ hT hw']
  · rw [win_mono2 (board_of_sides hS) (pos_sets hS') (pos_sets hS) ⟨fun j hj => setL_bit.2 (h.2 j (setL_bit.1 hj)), fun j hj => setL_bit.2 (h.1 j (setL_bit.1 hj))⟩ hT hw']
theorem joinsL_better {P : Nat} (hP : P = 1 ∨ P = 2) (h : ∀ j : Nat, xs[j]? = some (P : Int) → ys[j]? = some (P : Int)) (hj : joinsL (R : Int) (C : Int) xs (P : Int) = true) : joinsL (R : Int) (C : Int) ys (P : Int) = true := by
  have hS := sides_pos hb
  have hS' := sides_pos hb'
  rw [joinsL_eq hb hP] at hj
  rw [joinsL_eq hb' hP]
  exact joins_mono (set_lt9 hS _) (set_lt9 hS' _) (fun j hj => setL_bit.2 (h j (setL_bit.1 hj))) hj
end

theorem given_pos {r c : Int} {xs : List Int} {P : Nat} (hP : P = 1 ∨ P = 2) (S : Nat) (hb : posB r c xs = true) : posB r c (givenL xs (P : Int) S) = true := by
  unfold posB at hb ⊢
  rw [Bool.and_eq_true] at hb ⊢
  rw [givenL_length]
  refine ⟨hb.1, ?_⟩
  rw [List.all_eq_true]
  intro x hx
  unfold givenL at hx
  obtain ⟨j, hj, rfl⟩ := List.mem_map.1 hx
  unfold givenAt
  split
  · rcases hP with rfl | rfl <;> rfl
  · have hjl := List.mem_range.1 hj
    have : xs.getD j 0 ∈ xs := by
      rw [List.getD_eq_getElem?_getD, List.getElem?_eq_getElem hjl]; exact List.getElem_mem hjl
    exact List.all_eq_true.1 hb.2 _ this

section
variable {xs : List Int} {P : Nat} (hP : P = 1 ∨ P = 2)
include hP
theorem given_own {S j : Nat} : (givenL xs (P : Int) S)[j]? = some (P : Int) ↔ xs[j]? = some (P : Int) := by
  by_cases hj : j < xs.length
  · rw [givenL_get hj, get_of hj]
    unfold givenAt
    split
    · rename_i h
      rw [h.1]
      constructor
      · intro h2; have := Option.some.inj h2; omega
      · intro h2; have := Option.some.inj h2; omega
    · exact Iff.rfl
  · rw [List.getElem?_eq_none (by rw [givenL_length]; omega), List.getElem?_eq_none (by omega)]
theorem given_other {S j : Nat} : (givenL xs (P : Int) S)[j]? = some (3 - (P : Int)) ↔ xs[j]? = some (3 - (P : Int)) ∨ (xs[j]? = some 0 ∧ S.testBit j = false) := by
  by_cases hj : j < xs.length
  · rw [givenL_get hj, get_of hj]
    unfold givenAt
    split
    · rename_i h
      exact ⟨fun _ => .inr ⟨by rw [h.1], h.2⟩, fun _ => rfl⟩
    · rename_i h
      constructor
      · exact .inl
      · rintro (h2 | ⟨h2, h3⟩)
        · exact h2
        · exact (h ⟨Option.some.inj h2, h3⟩).elim
  · rw [List.getElem?_eq_none (by rw [givenL_length]; omega), List.getElem?_eq_none (by omega)]; simp
theorem given_free {S j : Nat} : (givenL xs (P : Int) S)[j]? = some 0 ↔ xs[j]? = some 0 ∧ S.testBit j = true := by
  by_cases hj : j < xs.length
  · rw [givenL_get hj, get_of hj]
    unfold givenAt
    split
    · rename_i h
      constructor
      · intro h2; have := Option.some.inj h2; omega
      · rintro ⟨_, h3⟩; rw [h.2] at h3; cases h3
    · rename_i h
      constructor
      · intro h2
        refine ⟨h2, ?_⟩
        cases e : S.testBit j with
        | true => rfl
        | false => exact (h ⟨Option.some.inj h2, e⟩).elim
      · exact fun h2 => h2.1
  · rw [List.getElem?_eq_none (by rw [givenL_length]; omega), List.getElem?_eq_none (by omega)]; simp
/-- With more cells it is no worse. -/
theorem given_more {S S' : Nat} (h : ∀ j, xs[j]? = some 0 → S.testBit j = true → S'.testBit j = true) : NoWorse (P : Int) (givenL xs (P : Int) S) (givenL xs (P : Int) S') := by
  refine ⟨fun j hj => (given_own hP).2 ((given_own hP).1 hj), fun j hj => ?_⟩
  rcases (given_other hP).1 hj with h1 | ⟨h1, h2⟩
  · exact (given_other hP).2 (.inl h1)
  · refine (given_other hP).2 (.inr ⟨h1, ?_⟩)
    cases e : S.testBit j with
    | false => rfl
    | true => rw [h j h1 e] at h2; cases h2
end
theorem given_all {xs : List Int} {P : Int} {S : Nat} (h : ∀ j, xs[j]? = some 0 → S.testBit j = true) : givenL xs P S = xs := by
  apply List.ext_getElem?
  intro j
  by_cases hj : j < xs.length
  · rw [givenL_get hj, get_of hj]
    unfold givenAt
    rw [if_neg]
    rintro ⟨h1, h2⟩
    rw [h j (by rw [get_of hj, h1])] at h2; cases h2
  · rw [List.getElem?_eq_none (by rw [givenL_length]; omega), List.getElem?_eq_none (by omega)]
theorem given_same {xs : List Int} {P : Int} {S S' : Nat} (h : ∀ j, xs[j]? = some 0 → S.testBit j = S'.testBit j) : givenL xs P S = givenL xs P S' := by
  unfold givenL
  apply List.map_congr_left
  intro j hj
  unfold givenAt
  by_cases h0 : xs.getD j 0 = 0
  · rw [h j (by rw [get_of (List.mem_range.1 hj), h0])]
  · rw [if_neg (fun hh => h0 hh.1), if_neg (fun hh => h0 hh.1)]

def okL (r c : Int) (xs : List Int) (P S : Int) : Bool := posB r c xs && playerB P && decide (0 ≤ S ∧ S < ((2 ^ xs.length : Nat) : Int))
def carrierL (r c : Int) (xs : List Int) (P S : Int) : Bool := okL r c xs P S && decide (winL r c (givenL xs P S.toNat) (3 - P) = P)
def threatL (r c : Int) (xs : List Int) (P S : Int) : Bool := okL r c xs P S && decide (winL r c (givenL xs P S.toNat) P = P)
theorem okL_iff {r c : Int} {xs : List Int} {P S : Nat} (hP : P = 1 ∨ P = 2) : okL r c xs (P : Int) (S : Int) = true ↔ posB r c xs = true ∧ S < 2 ^ xs.length := by
  unfold okL
  rw [playerB_of hP, Bool.and_true, Bool.and_eq_true, decide_eq_true_eq]
  exact ⟨fun h => ⟨h.1, by omega⟩, fun h => ⟨h.1, by omega⟩⟩

section
variable {R C P : Nat} {xs : List Int} (hb : posB (R : Int) (C : Int) xs = true) (hP : P = 1 ∨ P = 2)
include hb hP
theorem carrier_iff {S : Nat} (hS : S < 2 ^ xs.length) : carrierL (R : Int) (C : Int) xs (P : Int) (S : Int) = true ↔ winL (R : Int) (C : Int) (givenL xs (P : Int) S) ((3 - P : Nat) : Int) = (P : Int) := by
  unfold carrierL
  rw [(okL_iff hP).2 ⟨hb, hS⟩, Bool.true_and, decide_eq_true_eq, show (3 : Int) - (P : Int) = ((3 - P : Nat) : Int) by omega]
  exact Iff.rfl
theorem threat_iff {S : Nat} (hS : S < 2 ^ xs.length) : threatL (R : Int) (C : Int) xs (P : Int) (S : Int) = true ↔ winL (R : Int) (C : Int) (givenL xs (P : Int) S) (P : Int) = (P : Int) := by
  unfold threatL
  rw [(okL_iff hP).2 ⟨hb, hS⟩, Bool.true_and, decide_eq_true_eq]
  exact Iff.rfl
theorem carrier_threat {S : Nat} (hS : S < 2 ^ xs.length) (h : carrierL (R : Int) (C : Int) xs (P : Int) (S : Int) = true) : threatL (R : Int) (C : Int) xs (P : Int) (S : Int) = true := by
  have hO : 3 - P = 1 ∨ 3 - P = 2 := by omega
  have hg := given_pos hP S hb
  exact (threat_iff hb hP hS).2 (winL_first hg (sides_pos hg) hO hP ((carrier_iff hb hP hS).1 h))
theorem carrier_more {S S' : Nat} (hS : S < 2 ^ xs.length) (hS' : S' < 2 ^ xs.length) (hm : ∀ j, xs[j]? = some 0 → S.testBit j = true → S'.testBit j = true) (h : carrierL (R : Int) (C : Int) xs (P : Int) (S : Int) = true) : carrierL (R : Int) (C : Int) xs (P : Int) (S' : Int) = true := by
  have hO : 3 - P = 1 ∨ 3 - P = 2 := by omega
  exact (carrier_iff hb hP hS').2 (winL_better (given_pos hP S hb) (given_pos hP S' hb) hP hO (given_more hP hm) ((carrier_iff hb hP hS).1 h))
theorem threat_more {S S' : Nat} (hS : S < 2 ^ xs.length) (hS' : S' < 2 ^ xs.length) (hm : ∀ j, xs[j]? = some 0 → S.testBit j = true → S'.testBit j = true) (h : threatL (R : Int) (C : Int) xs (P : Int) (S : Int) = true) : threatL (R : Int) (C : Int) xs (P : Int) (S' : Int) = true :=
  (threat_iff hb hP hS').2 (winL_better (given_pos hP S hb) (given_pos hP S' hb) hP hP (given_more hP hm) ((threat_iff hb hP hS).1 h))
theorem all_bits {j : Nat} (hj : xs[j]? = some 0) : (2 ^ xs.length - 1).testBit j = true := by
  have := (List.getElem?_eq_some_iff.1 hj).1
  rw [Nat.testBit_two_pow_sub_one]; simp; omega
theorem carrier_all : carrierL (R : Int) (C : Int) xs (P : Int) ((2 ^ xs.length - 1 : Nat) : Int) = true ↔ winL (R : Int) (C : Int) xs ((3 - P : Nat) : Int) = (P : Int) := by
  rw [carrier_iff hb hP (by have := Nat.two_pow_pos xs.length; omega), given_all fun j hj => all_bits hb hP hj]
theorem threat_all : threatL (R : Int) (C : Int) xs (P : Int) ((2 ^ xs.length - 1 : Nat) : Int) = true ↔ winL (R : Int) (C : Int) xs (P : Int) = (P : Int) := by
  rw [threat_iff hb hP (by have := Nat.two_pow_pos xs.length; omega), given_all fun j hj => all_bits hb hP hj]
/-- A stone of the other one outside a threat does not meet it. -/
theorem threat_meet {S k : Nat} (hS : S < 2 ^ xs.length) (h : threatL (R : Int) (C : Int) xs (P : Int) (S : Int) = true) (hk : xs[k]? = some 0) (hkS : S.testBit k = false) : winL (R : Int) (C : Int) (xs.set k ((3 - P : Nat) : Int)) (P : Int) = (P : Int) := by
  have hO : 3 - P = 1 ∨ 3 - P = 2 := by omega
  have hkl := (List.getElem?_eq_some_iff.1 hk).1
  have e3 : ((3 - P : Nat) : Int) = 3 - (P : Int) := by omega
  refine winL_better (given_pos hP S hb) (pos_set hb hO k) hP hP ⟨fun j hj => ?_, fun j hj => ?_⟩ ((threat_iff hb hP hS).1 h)
  · have := (given_own hP).1 hj
    rw [List.getElem?_set_ne (fun e => by subst e; rw [hk] at this; have := Option.some.inj this; omega)]; exact this
  · refine (given_other hP).2 ?_
    rw [List.getElem?_set] at hj
    split at hj
    · rename_i e; subst e; exact .inr ⟨hk, hkS⟩
    · exact .inl hj
theorem wins_met {S k : Nat} (hS : S < 2 ^ xs.length) (h : threatL (R : Int) (C : Int) xs (P : Int) (S : Int) = true) (hw : winsB (R : Int) (C : Int) xs ((3 - P : Nat) : Int) k = true) : S.testBit k = true := by
  have hO : 3 - P = 1 ∨ 3 - P = 2 := by omega
  cases e : S.testBit k with
  | true => rfl
  | false =>
    have hw' := winsB_iff.1 hw
    have := threat_meet hb hP hS h (moveL_iff.1 hw'.1).2.2.1 e
    have h2 := hw'.2
    rw [show (3 : Int) - ((3 - P : Nat) : Int) = (P : Int) by omega, this] at h2
    omega
/-- Two threats without a common free cell carry together. -/
theorem two_threats {A B U : Nat} (hA : A < 2 ^ xs.length) (hB : B < 2 ^ xs.length) (hU : U < 2 ^ xs.length) (hAB : ∀ j, xs[j]? = some 0 → A.testBit j = true → B.testBit j = true → False) (hUAB : ∀ j, xs[j]? = some 0 → (U.testBit j = true ↔ A.testBit j = true ∨ B.testBit j = true))
    (h1 : threatL (R : Int) (C : Int) xs (P : Int) (A : Int) = true) (h2 : threatL (R : Int) (C : Int) xs (P : Int) (B : Int) = true) : carrierL (R : Int) (C : Int) xs (P : Int) (U : Int) = true := by
  have hO : 3 - P = 1 ∨ 3 - P = 2 := by omega
  have e3 : ((3 - P : Nat) : Int) = 3 - (P : Int) := by omega
  have hg := given_pos hP U hb
  have hgA := given_pos hP A hb
  have hgS := sides_pos hg
  rw [carrier_iff hb hP hU]
  have t1 := (threat_iff hb hP hA).1 h1
  have hno : joinsL (R : Int) (C : Int) (givenL xs (P : Int) U) ((3 - P : Nat) : Int) = false := by
    cases e : joinsL (R : Int) (C : Int) (givenL xs (P : Int) U) ((3 - P : Nat) : Int) with
    | false => rfl
    | true =>
      have hj := joinsL_better hg hgA hO (fun j hj => by
        rw [e3] at hj ⊢
        exact (given_more hP (S := A) (S' := U) fun j hj0 hAj => (hUAB j hj0).2 (.inl hAj)).2 j hj) e
      have := winL_done hgA (sides_pos hgA) hO hP hj
      rw [t1] at this; omega
  cases e : joinsL (R : Int) (C : Int) (givenL xs (P : Int) U) (P : Int) with
  | true => exact winL_done hg hgS hP hO e
  | false =>
    have hj12 : joinsL (R : Int) (C : Int) (givenL xs (P : Int) U) 1 = false ∧ joinsL (R : Int) (C : Int) (givenL xs (P : Int) U) 2 = false := by
      rcases hP with rfl | rfl
      · exact ⟨e, hno⟩
      · exact ⟨hno, e⟩
    obtain ⟨V, hV, hV2⟩ := winL_cases hg hO
    by_cases hVP : V = P
    · rw [hV, hVP]
    · have hVO : V = 3 - P := by omega
      rw [hVO] at hV
      obtain ⟨k, hk, hw⟩ := (winL_open hg hgS hO hj12.1 hj12.2).1 hV
      rw [show (3 : Int) - ((3 - P : Nat) : Int) = (P : Int) by omega] at hw
      obtain ⟨hk0, hkU⟩ := (given_free hP).1 hk
      have key : ∀ D : Nat, D < 2 ^ xs.length → threatL (R : Int) (C : Int) xs (P : Int) (D : Int) = true → D.testBit k = false → (∀ j, xs[j]? = some 0 → D.testBit j = true → U.testBit j = true) → False := by
        intro D hD hDt hDk hDU
        have := winL_better (given_pos hP D hb) (pos_set hg hO k) hP hP ⟨fun j hj => ?_, fun j hj => ?_⟩ ((threat_iff hb hP hD).1 hDt)
        · rw [this] at hw; omega
        · have hj' := (given_own hP).1 hj
          rw [List.getElem?_set_ne (fun e => by subst e; rw [hk0] at hj'; have := Option.some.inj hj'; omega)]
          exact (given_own hP).2 hj'
        · rw [List.getElem?_set] at hj
          split at hj
          · rename_i e; subst e; exact (given_other hP).2 (.inr ⟨hk0, hDk⟩)
          · exact (given_more hP (S := D) (S' := U) hDU).2 j hj
      rcases (hUAB k hk0).1 hkU with hA' | hB'
      · refine (key B hB h2 ?_ fun j hj hj2 => (hUAB j hj).2 (.inr hj2)).elim
        cases e2 : B.testBit k with
        | false => rfl
        | true => exact (hAB k hk0 hA' e2).elim
      · refine (key A hA h1 ?_ fun j hj hj2 => (hUAB j hj).2 (.inl hj2)).elim
        cases e2 : A.testBit k with
        | false => rfl
        | true => exact (hAB k hk0 e2 hB').elim
end

end Go.Proofs.YtfgjbfaapbhppaaDoor

/- The program's sets of cells: the cells with a stone, the sides, growing and gaps, walked through with the rules of XW. -/
namespace Go.Proofs.YtfgjbfaapbhppaaDoor
open Go Go.Ip G

/-! ### sets, without program text -/
theorem bit_of_ne {w : Nat} (h : w ≠ 0) : ∃ j, w.testBit j = true := by
  apply Classical.byContradiction
  intro hh
  refine h (Nat.eq_of_testBit_eq fun j => ?_)
  rw [Nat.zero_testBit]
  cases e : w.testBit j with
  | false => rfl
  | true => exact (hh ⟨j, e⟩).elim

theorem orAll_or : ∀ (L : List Int) (w : Nat), orAll w L = w ||| orAll 0 L
  | [], w => by simp [orAll]
  | e :: l, w => by rw [orAll, orAll_or l, orAll, orAll_or l (0 ||| _), Nat.zero_or, Nat.or_assoc]

theorem wide_step {R C S : Nat} (hB : BoardOf R C) : ∀ (m i w : Nat), i + m = R * C → wideFrom R C S m i w = stepFrom (2 ^ 9 - 1) S i ((masksN R C).drop i) w
  | 0, i, w, h => by rw [List.drop_eq_nil_of_le (by rw [masksN_length]; omega)]; rfl
  | m + 1, i, w, h => by
    have hi : i < (masksN R C).length := by rw [masksN_length]; omega
    have hm : (masksN R C)[i] = orAll 0 (nearN R C i) := by simp [masksN]
    have hlt : (masksN R C)[i] < 2 ^ 9 := masksN_lt hB _ (List.getElem_mem hi)
    have ha : (masksN R C)[i] &&& (2 ^ 9 - 1) = (masksN R C)[i] := by rw [Nat.and_two_pow_sub_one_eq_mod, Nat.mod_eq_of_lt hlt]
    rw [wideFrom, List.drop_eq_getElem_cons hi, stepFrom, Nat.and_one_is_mod, wide_step hB m (i + 1) _ (by omega), ha, hm]
    congr 1
    by_cases e : S >>> i % 2 = 1
    · rw [if_pos e, if_neg (by omega), orAll_or]
    · rw [if_neg e, if_pos (by omega)]

theorem wide_bit {R C S : Nat} (hB : BoardOf R C) (j : Nat) : (wideN R C S).testBit j = true ↔ S.testBit j = true ∨ ∃ k, S.testBit k = true ∧ Adj (masksN R C) k j := by
  unfold wideN
  rw [wide_step hB _ 0 S (by omega), List.drop_zero, stepFrom_bit]
  refine or_congr_right ⟨fun ⟨i, h1, h2, _⟩ => ⟨i, by simpa using h1, h2⟩, fun ⟨i, h1, h2⟩ => ⟨i, by simpa using h1, h2, ?_⟩⟩
  have := (adj_in hB h2).2
  have h9 := hB.2.2.2.2
  rw [Nat.testBit_two_pow_sub_one]; simp; omega

theorem wide_lt {R C S : Nat} (hB : BoardOf R C) (hS : S < 2 ^ 9) : wideN R C S < 2 ^ 9 := by
  obtain ⟨h1, h2, h3, h4, h9⟩ := hB; exact wideFrom_lt h1 h2 h3 h4 h9 _ _ _ (by omega) hS

theorem grown_is {M : List Nat} {S T X : Nat} (hS : S < 2 ^ 9) (hT : T < 2 ^ 9) (h0 : ∀ j, S.testBit j = true → X.testBit j = true) (hr : ∀ j, X.testBit j = true → Reach M (S ||| T) S j)
    (hc : ∀ k j, X.testBit k = true → Adj M k j → T.testBit j = true → X.testBit j = true) : X = growN M (S ||| T) S := by
  apply Nat.eq_of_testBit_eq
  intro j
  rw [Bool.eq_iff_iff, grow_bit (Nat.or_lt_two_pow hS hT)]
  refine ⟨hr j, fun h => ?_⟩
  induction h with
  | start h _ => exact h0 _ h
  | step _ ha hs ih =>
    rw [Nat.testBit_or, Bool.or_eq_true] at hs
    rcases hs with hs | hs
    · exact h0 _ hs
    · exact hc _ _ ih ha hs

theorem grown_in {M : List Nat} {own first : Nat} : growN M ((first &&& own) ||| own) (first &&& own) = growN M own first := by
  have : (first &&& own) ||| own = own := by
    apply Nat.eq_of_testBit_eq; intro j
    rw [Nat.testBit_or, Nat.testBit_and]; cases first.testBit j <;> cases own.testBit j <;> rfl
  rw [this]
  unfold growN
  rw [Nat.and_assoc, Nat.and_self]

theorem listN_filter (S : Nat) : listN S = ((List.range 9).filter S.testBit).map fun k : Nat => (k : Int) := by
  have : ∀ m k, listFrom S m k = ((List.range' k m).filter S.testBit).map fun k : Nat => (k : Int) := by
    intro m
    induction m with
    | zero => intro k; rfl
    | succ m ih =>
      intro k
      rw [listFrom, List.range'_succ, List.filter_cons, ih]
      by_cases e : S >>> k % 2 = 1
      · rw [if_pos e, if_pos ((bit_iff S k).1 e), List.map_cons]
      · rw [if_neg e, if_neg (fun h => e ((bit_iff S k).2 h))]
  rw [List.range_eq_range']; exact this 9 0

variable (g : Nat → PV) (lf n : Nat)

/-! ### the program -/
theorem playerOk_W (N : Nat) (hN : 1 ≤ N) (h : PHeap) (p : Int) : CL g lf N fn_impl_playerOk [.int .i64 p] h = some (.bool (playerB p), h) := by
  obtain ⟨n, rfl⟩ : ∃ n, N = n + 1 := ⟨N - 1, by omega⟩
  have : W (CL g lf (n + 1) fn_impl_playerOk [.int .i64 p] h) fun v h' => v = .bool (playerB p) ∧ h' = h := by
    rw [impl_playerOk.call_eq]
    unfold impl_playerOk.main
    simp only [env_pick, env_bin]
    refine weql (fun e => ?_) (fun e => ?_)
    · repeat (first | with_reducible refine wg0 rfl ?_ | with_reducible refine wpT ?_ | with_reducible refine wsm ?_ | with_reducible refine wrB ?_ | dsimp only)
      exact W.ret ⟨by subst e; rfl, rfl⟩
    · repeat (first | with_reducible refine wg1 rfl ?_ | with_reducible refine wpv ?_ | with_reducible refine wsm ?_ | dsimp only)
      refine weql (fun e2 => ?_) (fun e2 => ?_)
      · repeat (first | with_reducible refine wpF ?_ | with_reducible refine wrB ?_)
        exact W.ret ⟨by subst e2; rfl, rfl⟩
      · repeat (first | with_reducible refine wpF ?_ | with_reducible refine wrB ?_)
        exact W.ret ⟨by rw [show playerB p = false by unfold playerB; exact decide_eq_false (by omega)], rfl⟩
  obtain ⟨_, _, e, rfl, rfl⟩ := this
  exact e

theorem setOf_W {xs : List Int} {p : PV} {h : PHeap} (what : Int) (hp : IntSl .i64 h p xs) (hl : xs.length ≤ 20) (N : Nat) (hN : 1 ≤ N) (hlf : 1000 < lf) :
    CL g lf N fn_impl_setOf [p, .int .i64 what] h = some (.int .i64 (setL xs what : Int), h) := by
  obtain ⟨n, rfl⟩ : ∃ n, N = n + 1 := ⟨N - 1, by omega⟩
  have : W (CL g lf (n + 1) fn_impl_setOf [p, .int .i64 what] h) fun v h' => v = .int .i64 (setL xs what : Int) ∧ h' = h := by
    rw [impl_setOf.call_eq]
    unfold impl_setOf.main
    simp only [env_lf, env_len]
    repeat (first | with_reducible refine wlen (by assumption) ?_)
    refine loopW (fun m s => ∃ i w : Nat, s = impl_setOf.st0 (.int .i64 what) (.int .i64 (w : Int)) p (.int .i64 (xs.length : Int)) (.int .i64 (i : Int)) h ∧ i + m = xs.length ∧ w < 2 ^ 30 ∧ setFrom what i (xs.drop i) w = setL xs what) ?_ lf xs.length _ (by omega) ⟨0, 0, rfl, by omega, by decide, rfl⟩
    rintro n1 m s ⟨i, w, rfl, him, hw, hset⟩ next
    rw [impl_setOf.body0_eq]
    unfold impl_setOf.body0
    simp only [env_load, env_bin, env_indexAddr]
    by_cases hi : i < xs.length
    · have hdx : xs.drop i = xs[i] :: xs.drop (i + 1) := List.drop_eq_getElem_cons hi
      have h30 : 1 <<< i < 2 ^ 30 := by rw [Nat.one_shiftLeft]; exact Nat.pow_lt_pow_right (by decide) (by omega)
      rw [hdx, setFrom] at hset
      repeat (first | with_reducible refine wT ?_ | with_reducible refine wbd (by assumption) ?_ | (with_reducible refine wat hp hi fun a hl => ?_) | with_reducible refine wlssT (by omega) ?_)
      refine weql (fun e => ?_) (fun e => ?_)
      · repeat (first | with_reducible refine wT ?_ | with_reducible refine wadd1 (by omega) ?_ | with_reducible refine wshl (by omega) ?_ | with_reducible refine wor (by omega) (by omega) ?_)
        rw [if_pos e] at hset
        exact next _ _ (show m - 1 < m by omega) ⟨i + 1, _, rfl, by omega, Nat.or_lt_two_pow hw h30, hset⟩
      · repeat (first | with_reducible refine wF ?_ | with_reducible refine wadd1 (by omega) ?_)
        rw [if_neg e] at hset
        exact next _ _ (show m - 1 < m by omega) ⟨i + 1, _, rfl, by omega, hw, hset⟩
    · rw [List.drop_eq_nil_of_le (by omega), setFrom] at hset
      repeat (first | with_reducible refine wF ?_ | with_reducible refine wrI ?_ | with_reducible refine wlssF (by omega) ?_ | rw [kLoop_exit] | rw [impl_setOf.after0_se0_1_5_8_9_10_11])
      exact W.ret ⟨by rw [hset], rfl⟩
  obtain ⟨_, _, e, rfl, rfl⟩ := this
  exact e

theorem sidesOf_W {R C P : Nat} (hB : BoardOf R C) (hP : P = 1 ∨ P = 2) (N : Nat) (hN : 1 ≤ N) (hlf : 1000 < lf) (h : PHeap) :
    CL g lf N fn_impl_sidesOf [.int .i64 (R : Int), .int .i64 (C : Int), .int .i64 (P : Int)] h = some (.tup [.int .i64 (sideN R C P false : Int), .int .i64 (sideN R C P true : Int)], h) := by
  obtain ⟨n, rfl⟩ : ∃ n, N = n + 1 := ⟨N - 1, by omega⟩
  have : W (CL g lf (n + 1) fn_impl_sidesOf [.int .i64 (R : Int), .int .i64 (C : Int), .int .i64 (P : Int)] h) fun v h' => v = .tup [.int .i64 (sideN R C P false : Int), .int .i64 (sideN R C P true : Int)] ∧ h' = h := by
    obtain ⟨h1, h2, h3, h4, h9⟩ := id hB
    rw [impl_sidesOf.call_eq]
    unfold impl_sidesOf.main
    simp only [env_lf, env_bin]
    repeat (first | with_reducible refine wmulN (by omega) ?_)
    refine loopW (fun m s => ∃ i w1 w2 : Nat, s = impl_sidesOf.st0 (.int .i64 (R : Int)) (.int .i64 (C : Int)) (.int .i64 (P : Int)) (.int .i64 (w1 : Int)) (.int .i64 (w2 : Int)) (.int .i64 ((R * C : Nat) : Int)) (.int .i64 (i : Int)) h ∧ i + m = R * C ∧ w1 < 2 ^ 9 ∧ w2 < 2 ^ 9 ∧ sideFrom R C P false m i w1 = sideN R C P false ∧ sideFrom R C P true m i w2 = sideN R C P true) ?_ lf (R * C) _ (by omega) ⟨0, 0, 0, rfl, by omega, by decide, by decide, rfl, rfl⟩
    rintro n1 m s ⟨i, w1, w2, rfl, him, hw1, hw2, hs1, hs2⟩ next
    rw [impl_sidesOf.body0_eq]
    unfold impl_sidesOf.body0
    simp only [env_bin]
    cases m with
    | zero =>
      rw [sideFrom] at hs1 hs2
      repeat (first | with_reducible refine wF ?_ | with_reducible refine wrI ?_ | with_reducible refine wlssF (by omega) ?_ | rw [kLoop_exit] | rw [impl_sidesOf.after0_se0_0_1_2_8_9_15_16_17])
      exact W.ret ⟨by rw [hs1, hs2], rfl⟩
    | succ m =>
      have hsl := shl_lt (show i < 9 by omega)
      rw [sideFrom] at hs1 hs2
      simp only [cond_true, cond_false, decide_eq_true_eq] at hs1 hs2
      obtain ⟨x, hx⟩ : ∃ x, x = atSide C P i := ⟨_, rfl⟩
      obtain ⟨y, hy⟩ : ∃ y, y = endSide R C P := ⟨_, rfl⟩
      rw [← hx] at hs1 hs2
      rw [← hy] at hs2
      have l1 := Nat.or_lt_two_pow hw1 hsl
      have l2 := Nat.or_lt_two_pow hw2 hsl
      rcases hP with rfl | rfl
      · have hx' : x = i / C := hx
        have hy' : y = R - 1 := hy
        by_cases a0 : x = 0 <;> by_cases a1 : x = y 
        all_goals
          first | rw [if_pos a0] at hs1 | rw [if_neg a0] at hs1
          first | rw [if_pos a1] at hs2 | rw [if_neg a1] at hs2
          repeat (first | with_reducible refine wT ?_ | with_reducible refine wF ?_ | (rw [← hx', ← hy']) | with_reducible refine wadd1 (by omega) ?_ | with_reducible refine wsub1 (by omega) (by omega) ?_ | with_reducible refine wquoN (by omega) (by omega) ?_ | with_reducible refine wshl (by omega) ?_ | with_reducible refine wor (by omega) (by omega) ?_ | with_reducible refine wlssT (by omega) ?_ | with_reducible refine weqlT (by omega) ?_ | with_reducible refine weqlF (by omega) ?_)
          first
            | exact next _ _ (Nat.lt_succ_self m) ⟨i + 1, _, _, rfl, by omega, l1, l2, hs1, hs2⟩
            | exact next _ _ (Nat.lt_succ_self m) ⟨i + 1, _, _, rfl, by omega, hw1, l2, hs1, hs2⟩
            | exact next _ _ (Nat.lt_succ_self m) ⟨i + 1, _, _, rfl, by omega, l1, hw2, hs1, hs2⟩
            | exact next _ _ (Nat.lt_succ_self m) ⟨i + 1, _, _, rfl, by omega, hw1, hw2, hs1, hs2⟩
      · have hx' : x = i % C := hx
        have hy' : y = C - 1 := hy
        by_cases a0 : x = 0 <;> by_cases a1 : x = y 
        all_goals
          first | rw [if_pos a0] at hs1 | rw [if_neg a0] at hs1
          first | rw [if_pos a1] at hs2 | rw [if_neg a1] at hs2
          repeat (first | with_reducible refine wT ?_ | with_reducible refine wF ?_ | (rw [← hx', ← hy']) | with_reducible refine wadd1 (by omega) ?_ | with_reducible refine wsub1 (by omega) (by omega) ?_ | with_reducible refine wquoN (by omega) (by omega) ?_ | with_reducible refine wremN (by omega) ?_ | with_reducible refine wshl (by omega) ?_ | with_reducible refine wor (by omega) (by omega) ?_ | with_reducible refine wlssT (by omega) ?_ | with_reducible refine weqlT (by omega) ?_ | with_reducible refine weqlF (by omega) ?_)
          first
            | exact next _ _ (Nat.lt_succ_self m) ⟨i + 1, _, _, rfl, by omega, l1, l2, hs1, hs2⟩
            | exact next _ _ (Nat.lt_succ_self m) ⟨i + 1, _, _, rfl, by omega, hw1, l2, hs1, hs2⟩
            | exact next _ _ (Nat.lt_succ_self m) ⟨i + 1, _, _, rfl, by omega, l1, hw2, hs1, hs2⟩
            | exact next _ _ (Nat.lt_succ_self m) ⟨i + 1, _, _, rfl, by omega, hw1, hw2, hs1, hs2⟩
  obtain ⟨_, _, e, rfl, rfl⟩ := this
  exact e

theorem grown_W {R C S T : Nat} (hB : BoardOf R C) (hS : S < 2 ^ 9) (hT : T < 2 ^ 9) (N : Nat) (hN : 6 ≤ N) (hlf : 1000 < lf) {h : PHeap} (ht : Tab g h) :
    ∃ h', CL g lf N fn_impl_grown [.int .i64 (R : Int), .int .i64 (C : Int), .int .i64 (S : Int), .int .i64 (T : Int)] h = some (.int .i64 (growN (masksN R C) (S ||| T) S : Int), h') ∧ Keep h.length h h' := by
  obtain ⟨n, rfl⟩ : ∃ n, N = n + 1 := ⟨N - 1, by omega⟩
  have : W (CL g lf (n + 1) fn_impl_grown [.int .i64 (R : Int), .int .i64 (C : Int), .int .i64 (S : Int), .int .i64 (T : Int)] h) fun v h' => v = .int .i64 (growN (masksN R C) (S ||| T) S : Int) ∧ Keep h.length h h' := by
    rw [impl_grown.call_eq]
    unfold impl_grown.main
    simp only [env_lf]
    refine loopW (fun m s => ∃ (X w : Nat) (h1 : PHeap), s = impl_grown.st0 (.int .i64 (R : Int)) (.int .i64 (C : Int)) (.int .i64 (X : Int)) (.int .i64 (T : Int)) (.int .i64 (w : Int)) h1 ∧ Keep h.length h h1 ∧ Tab g h1 ∧ X < 2 ^ 9 ∧ (∀ j, w.testBit j = true → X.testBit j = true) ∧
      (∀ j, S.testBit j = true → X.testBit j = true) ∧ (∀ j, X.testBit j = true → Reach (masksN R C) (S ||| T) S j) ∧ (∀ k j, X.testBit k = true → w.testBit k = false → Adj (masksN R C) k j → T.testBit j = true → X.testBit j = true) ∧ m = (512 - X) + (if w = 0 then 0 else 1)) ?_ lf (512 - S + (if S = 0 then 0 else 1)) _ (by split <;> omega)
      ⟨S, S, h, rfl, Keep.refl _ _, ht, hS, fun _ h => h, fun _ h => h, fun j hj => .start hj (by rw [Nat.testBit_or, hj]; rfl), fun k j h1 h2 _ _ => (by rw [h1] at h2; cases h2), rfl⟩
    rintro n1 m s ⟨X, w, h1, rfl, k1, t1, hX, hw, hSX, hXr, hc, hm⟩ next
    rw [impl_grown.body0_eq]
    unfold impl_grown.body0
    simp only [env_C, env_bin]
    by_cases e : w = 0
    · repeat (first | with_reducible refine wF ?_ | with_reducible refine wrI ?_ | with_reducible refine wneqF (by omega) ?_ | rw [kLoop_exit] | rw [impl_grown.after0_se0_0_1_2_3_9_12])
      refine W.ret ⟨?_, k1⟩
      rw [grown_is hS hT hSX hXr fun k j h1 h2 h3 => hc k j h1 (by rw [e, Nat.zero_testBit]) h2 h3]
    · have hw9 : w < 2 ^ 9 := Nat.lt_of_le_of_lt (sub_le hw) hX
      obtain ⟨b1, b2, b3, b4, b5⟩ := id hB
      obtain ⟨h2, e2, k2⟩ := withNear_calls g lf b1 b2 b3 b4 b5 hw9 n (by omega) (by omega) t1
      have hwl := wide_lt hB hw9
      have hal : wideN R C w &&& T < 2 ^ 9 := Nat.and_lt_two_pow _ hT
      have hml : minusN (wideN R C w &&& T) X < 2 ^ 9 := minusN_lt hal
      repeat (first | with_reducible refine wT ?_ | with_reducible refine wbd (by assumption) ?_ | with_reducible refine wand (by omega) (by omega) ?_ | with_reducible refine wor (by omega) (by omega) ?_ | with_reducible refine wandNot (by omega) (by omega) ?_ | with_reducible refine wneqT (by omega) ?_ | dsimp only)
      obtain ⟨w', hw'⟩ : ∃ w', w' = minusN (wideN R C w &&& T) X := ⟨_, rfl⟩
      have hb : ∀ j, w'.testBit j = true ↔ (w.testBit j = true ∨ ∃ k, w.testBit k = true ∧ Adj (masksN R C) k j) ∧ T.testBit j = true ∧ X.testBit j = false := fun j => by
        rw [hw', minusN_bit, Nat.testBit_and, ← wide_bit hB]; cases (wideN R C w).testBit j <;> cases T.testBit j <;> cases X.testBit j <;> simp
      rw [← hw'] at hml ⊢
      have hor : X ||| w' < 2 ^ 9 := Nat.or_lt_two_pow hX hml
      have hle : X ≤ X ||| w' := Nat.left_le_or
      have hne : w' ≠ 0 → X ≠ X ||| w' := fun hz he => by
        obtain ⟨j, hj⟩ := bit_of_ne hz
        have h1 := ((hb j).1 hj).2.2
        rw [he, Nat.testBit_or, hj, Bool.or_true] at h1; cases h1
      refine next _ _ ?_ ⟨X ||| w', w', h2, rfl, k1.trans (k2.mono k1.1), t1.keep k2, hor, fun j hj => by rw [Nat.testBit_or, hj, Bool.or_true], fun j hj => by rw [Nat.testBit_or, hSX j hj, Bool.true_or], ?_, ?_, rfl⟩
      · rw [hm, if_neg e]
        by_cases e' : w' = 0
        · rw [if_pos e']; omega
        · rw [if_neg e']; have := hne e'; omega
      · intro j hj
        rw [Nat.testBit_or, Bool.or_eq_true] at hj
        rcases hj with hj | hj
        · exact hXr j hj
        · obtain ⟨h1 | ⟨k, h1, h2⟩, h3, h4⟩ := (hb j).1 hj
          · rw [hw j h1] at h4; cases h4
          · exact .step (hXr k (hw k h1)) h2 (by rw [Nat.testBit_or, h3, Bool.or_true])
      · intro k j h1 h2 h3 h4
        rw [Nat.testBit_or, h2, Bool.or_false] at h1
        rw [Nat.testBit_or]
        by_cases hk : w.testBit k = true
        · cases hx : X.testBit j with
          | true => rfl
          | false => rw [(hb j).2 ⟨.inr ⟨k, hk, h3⟩, h4, hx⟩]; rfl
        · rw [hc k j h1 (by simpa using hk) h3 h4]; rfl
  obtain ⟨_, h', e, rfl, k⟩ := this
  exact ⟨h', e, k⟩

/-- What a next wave adds: the same as the model's. -/
theorem wave_is {R C : Nat} (hB : BoardOf R C) {x free edge : Nat} : x ||| minusN ((edge ||| wideN R C x) &&& free) x = stepFrom free x 0 (masksN R C) (x ||| (edge &&& free)) := by
  apply Nat.eq_of_testBit_eq
  intro j
  rw [Bool.eq_iff_iff, stepFrom_bit, Nat.testBit_or, minusN_bit, Nat.testBit_and, Nat.testBit_or, Nat.testBit_or, Nat.testBit_and]
  have hb := wide_bit (S := x) hB j
  constructor
  · intro h
    simp only [Bool.or_eq_true, Bool.and_eq_true] at h
    rcases h with h | ⟨⟨h | h, hf⟩, _⟩
    · left; simp [h]
    · left; simp [h, hf]
    · rcases hb.1 h with h | ⟨k, h1, h2⟩
      · left; simp [h]
      · right; exact ⟨k, by simpa using h1, h2, hf⟩
  · rintro (h | ⟨k, h1, h2, h3⟩)
    · simp only [Bool.or_eq_true, Bool.and_eq_true] at h
      rcases h with h | ⟨h1, h2⟩
      · simp [h]
      · cases hx : x.testBit j <;> simp [h1, h2]
    · have := hb.2 (.inr ⟨k, by simpa using h1, h2⟩)
      cases hx : x.testBit j <;> simp [this, h3]

end Go.Proofs.YtfgjbfaapbhppaaDoor

