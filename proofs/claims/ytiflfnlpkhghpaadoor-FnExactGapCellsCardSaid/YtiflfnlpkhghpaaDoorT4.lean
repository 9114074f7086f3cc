/- What the laws of chapter 2 say of positions, as facts on sets of cells. No program text. -/
import Derived.Test.YtiflfnlpkhghpaaDoorS3
import Derived.Test.YtiflfnlpkhghpaaDoorT3
import Derived.Test.YtiflfnlpkhghpaaDoorP6
namespace Go.Proofs.YtiflfnlpkhghpaaDoor

/-! ### joined sides -/
theorem joins_iff {R C P S : Nat} (hS : S < 2 ^ 9) : joinsN R C P S = true ↔ ∃ j, (sideN R C P true).testBit j = true ∧ Reach (masksN R C) S (sideN R C P false) j := by
  unfold joinsN
  rw [Bool.not_eq_true', decide_eq_false_iff_not]
  constructor
  · intro h
    apply Classical.byContradiction
    intro hn
    exact h (and_zero.2 fun j h1 h2 => hn ⟨j, h2, (grow_bit hS j).1 h1⟩)
  · rintro ⟨j, h1, h2⟩ h
    exact and_zero.1 h j ((grow_bit hS j).2 h2) h1

theorem joins_mono {R C P S T : Nat} (hS : S < 2 ^ 9) (hT : T < 2 ^ 9) (h : ∀ j, S.testBit j = true → T.testBit j = true) (hj : joinsN R C P S = true) : joinsN R C P T = true := by
  obtain ⟨j, h1, h2⟩ := (joins_iff hS).1 hj
  exact (joins_iff hT).2 ⟨j, h1, h2.mono h (fun _ h => h)⟩

theorem compl_bit {n S : Nat} (hS : S < 2 ^ n) (j : Nat) : (2 ^ n - 1 - S).testBit j = (decide (j < n) && !S.testBit j) := by
  rw [Nat.sub_sub, Nat.add_comm 1 S]; exact Nat.testBit_two_pow_sub_succ hS j

theorem hex {R C P S : Nat} (hB : BoardOf R C) (hP : P = 1 ∨ P = 2) (hS : S < 2 ^ (R * C)) : joinsN R C P S = !joinsN R C (3 - P) (2 ^ (R * C) - 1 - S) := by
  have key : ∀ T, T < 2 ^ (R * C) → joinsN R C 1 T = !joinsN R C 2 (2 ^ (R * C) - 1 - T) := fun T hT => by
    have := hex_ok hB hT
    unfold hexB at this
    simp only [Bool.and_eq_true] at this
    have := this.1.1.1.1
    cases h1 : joinsN R C 1 T <;> cases h2 : joinsN R C 2 (2 ^ (R * C) - 1 - T) <;> rw [h1, h2] at this <;> first | rfl | cases this
  rcases hP with rfl | rfl
  · exact key S hS
  · have h2 := key (2 ^ (R * C) - 1 - S) (by omega)
    rw [show 2 ^ (R * C) - 1 - (2 ^ (R * C) - 1 - S) = S by omega] at h2
    rw [show 3 - 2 = 1 from rfl, h2, Bool.not_not]

theorem content_cases {R C : Nat} {r c : Int} {xs : List Int} (hs : Sides r c R C xs) {j : Nat} (hj : j < R * C) : xs[j]? = some 0 ∨ xs[j]? = some 1 ∨ xs[j]? = some 2 := by
  obtain ⟨_, _, _, _, _, _, _, hlen, hall⟩ := hs
  have hj' : j < xs.length := by omega
  have := List.all_eq_true.1 hall _ (List.getElem_mem hj')
  unfold contentB at this
  have := of_decide_eq_true this
  rw [List.getElem?_eq_getElem hj']
  have h3 : xs[j] = 0 ∨ xs[j] = 1 ∨ xs[j] = 2 := by omega
  rcases h3 with h | h | h <;> rw [h] <;> simp

theorem set_lt {R C : Nat} {r c : Int} {xs : List Int} (hs : Sides r c R C xs) (w : Int) : setL xs w < 2 ^ (R * C) := setL_lt w (by have := hs.2.2.2.2.2.2.2.1; omega)
theorem set_lt9 {R C : Nat} {r c : Int} {xs : List Int} (hs : Sides r c R C xs) (w : Int) : setL xs w < 2 ^ 9 := setL_lt w (by have := hs.2.2.2.2.2.2.2.1; have := hs.2.2.2.2.2.2.1; omega)

theorem set_in {R C : Nat} {r c : Int} {xs : List Int} (hs : Sides r c R C xs) {w : Int} {j : Nat} (h : (setL xs w).testBit j = true) : j < R * C := bit_small (set_lt hs w) h

/-- The cells that are not the other one's. -/
theorem own_free {R C P : Nat} {r c : Int} {xs : List Int} (hs : Sides r c R C xs) (hP : P = 1 ∨ P = 2) : 2 ^ (R * C) - 1 - setL xs ((3 - P : Nat) : Int) = setL xs (P : Int) ||| setL xs 0 := by
  apply Nat.eq_of_testBit_eq
  intro j
  rw [compl_bit (set_lt hs _), Nat.testBit_or, Bool.eq_iff_iff, Bool.and_eq_true, Bool.or_eq_true, decide_eq_true_iff, Bool.not_eq_true']
  constructor
  · rintro ⟨hj, hn⟩
    have hn' : ¬ (setL xs ((3 - P : Nat) : Int)).testBit j = true := by rw [hn]; simp
    rw [setL_bit] at hn'
    rw [setL_bit, setL_bit]
    rcases hP with rfl | rfl <;> rcases content_cases hs hj with h | h | h <;> rw [h] at hn' ⊢ <;> first | (left; rfl) | (right; rfl) | exact absurd rfl hn'
  · intro h
    have hj : j < R * C := by rcases h with h | h <;> exact set_in hs h
    refine ⟨hj, ?_⟩
    cases e : (setL xs ((3 - P : Nat) : Int)).testBit j with
    | false => rfl
    | true =>
      rw [setL_bit] at e
      rw [setL_bit, setL_bit, e] at h
      rcases hP with rfl | rfl <;> rcases h with h | h <;> cases h

theorem joinsL_eq {R C P : Nat} {xs : List Int} (hb : posB (R : Int) (C : Int) xs = true) (hP : P = 1 ∨ P = 2) : joinsL (R : Int) (C : Int) xs (P : Int) = joinsN R C P (setL xs (P : Int)) := by
  have hp : playerB (P : Int) = true := by rcases hP with rfl | rfl <;> rfl
  unfold joinsL
  rw [hb, hp]; rfl

/-- The other one has joined just if all but its stones do not join. -/
theorem other_joins {R C P : Nat} {r c : Int} {xs : List Int} (hs : Sides r c R C xs) (hP : P = 1 ∨ P = 2) : joinsN R C P (setL xs (P : Int) ||| setL xs 0) = !joinsN R C (3 - P) (setL xs ((3 - P : Nat) : Int)) := by
  have hB := board_of_sides hs
  have hP' : 3 - P = 1 ∨ 3 - P = 2 := by omega
  have := hex hB hP' (set_lt hs ((3 - P : Nat) : Int))
  rw [own_free hs hP, show 3 - (3 - P) = P by omega] at this
  rw [this, Bool.not_not]

theorem never_both {R C P : Nat} {r c : Int} {xs : List Int} (hs : Sides r c R C xs) (hP : P = 1 ∨ P = 2) (h : joinsN R C P (setL xs (P : Int)) = true) : joinsN R C (3 - P) (setL xs ((3 - P : Nat) : Int)) = false := by
  have hm := joins_mono (set_lt9 hs _) (Nat.or_lt_two_pow (set_lt9 hs _) (set_lt9 hs 0)) (fun j hj => by rw [Nat.testBit_or, hj]; rfl) h
  rw [other_joins hs hP] at hm
  simpa using hm

/-! ### filled -/
theorem filled_set {R C P : Nat} {r c : Int} {xs : List Int} (hs : Sides r c R C xs) (hP : P = 1 ∨ P = 2) : setL (xs.map (fillL (P : Int))) (P : Int) = setL xs (P : Int) ||| setL xs 0 ∧ setL (xs.map (fillL (P : Int))) ((3 - P : Nat) : Int) = setL xs ((3 - P : Nat) : Int) ∧ setL (xs.map (fillL (P : Int))) 0 = 0 := by
  refine ⟨?_, ?_, ?_⟩ <;> apply Nat.eq_of_testBit_eq <;> intro j <;> rw [Bool.eq_iff_iff]
  · rw [Nat.testBit_or, Bool.or_eq_true, setL_bit, setL_bit, setL_bit, List.getElem?_map]
    cases e : xs[j]? with
    | none => simp
    | some x =>
      simp only [Option.map_some, Option.some.injEq]
      unfold fillL
      split
      · rename_i h; subst h; simp
      · rename_i h; simp [h]
  · rw [setL_bit, setL_bit, List.getElem?_map]
    cases e : xs[j]? with
    | none => simp
    | some x =>
      simp only [Option.map_some, Option.some.injEq]
      unfold fillL
      split
      · rename_i h; subst h; rcases hP with rfl | rfl <;> simp
      · exact Iff.rfl
  · rw [setL_bit, List.getElem?_map, Nat.zero_testBit]
    cases e : xs[j]? with
    | none => simp
    | some x =>
      simp only [Option.map_some, Option.some.injEq]
      unfold fillL
      split
      · rcases hP with rfl | rfl <;> simp
      · rename_i h; simp [h]

theorem filled_pos {P : Nat} {r c : Int} {xs : List Int} (hb : posB r c xs = true) (hP : P = 1 ∨ P = 2) : posB r c (xs.map (fillL (P : Int))) = true := by
  unfold posB at hb ⊢
  rw [List.length_map]
  rw [Bool.and_eq_true] at hb ⊢
  refine ⟨hb.1, ?_⟩
  rw [List.all_map, List.all_eq_true]
  intro x hx
  have := List.all_eq_true.1 hb.2 x hx
  show contentB (fillL (P : Int) x) = true
  unfold fillL
  split
  · rcases hP with rfl | rfl <;> rfl
  · exact this

/-! ### turned and mirrored -/
theorem moved_bit (f : Nat → Nat) (S : Nat) : ∀ (n j : Nat), (moved f S n).testBit j = true ↔ ∃ k, k < n ∧ S.testBit k = true ∧ j = f k
  | 0, j => by simp [moved]
  | n + 1, j => by
    rw [moved, Nat.testBit_or, Bool.or_eq_true, moved_bit f S n j]
    have hlast : ((if S.testBit n = true then 1 <<< f n else 0).testBit j = true) ↔ (S.testBit n = true ∧ j = f n) := by
      by_cases h : S.testBit n = true
      · rw [if_pos h, one_bit, decide_eq_true_iff]; simp [h]
      · rw [if_neg h, Nat.zero_testBit]; simp [h]
    rw [hlast]
    constructor
    · rintro (⟨k, h1, h2, h3⟩ | ⟨h1, h2⟩)
      · exact ⟨k, by omega, h2, h3⟩
      · exact ⟨n, by omega, h1, h2⟩
    · rintro ⟨k, h1, h2, h3⟩
      by_cases e : k = n
      · subst e; exact .inr ⟨h2, h3⟩
      · exact .inl ⟨k, by omega, h2, h3⟩

theorem setL_reverse (xs : List Int) (w : Int) : setL xs.reverse w = moved (fun k => xs.length - 1 - k) (setL xs w) xs.length := by
  apply Nat.eq_of_testBit_eq
  intro j
  rw [Bool.eq_iff_iff, setL_bit, moved_bit]
  constructor
  · intro h
    have hj : j < xs.length := by
      have := (List.getElem?_eq_some_iff.1 h).1
      rwa [List.length_reverse] at this
    rw [List.getElem?_reverse hj] at h
    exact ⟨xs.length - 1 - j, by omega, setL_bit.2 h, by omega⟩
  · rintro ⟨k, h1, h2, rfl⟩
    rw [List.getElem?_reverse (by omega), show xs.length - 1 - (xs.length - 1 - k) = k by omega]
    exact setL_bit.1 h2

theorem setL_mir {R C : Nat} {r c : Int} {xs : List Int} (hs : Sides r c R C xs) (w : Int) : setL (mir R C xs) (swapI w) = moved (sig C R) (setL xs w) (R * C) := by
  obtain ⟨_, _, h1, h2, h3, h4, h9, hlen, _⟩ := hs
  apply Nat.eq_of_testBit_eq
  intro j
  rw [Bool.eq_iff_iff, setL_bit, moved_bit]
  constructor
  · intro h
    have hj : j < xs.length := by
      have := (List.getElem?_eq_some_iff.1 h).1
      rwa [mir_length] at this
    have hsg := sig_lt (k := j) h1 h2 h3 h4 h9 (by omega)
    rw [mir_get hj] at h
    have hk : sig R C j < xs.length := by omega
    have := congrArg swapI (Option.some.inj h)
    rw [swapI_swapI, swapI_swapI, List.getD_eq_getElem?_getD, List.getElem?_eq_getElem hk] at this
    refine ⟨sig R C j, by omega, setL_bit.2 ?_, hsg.2.symm⟩
    rw [List.getElem?_eq_getElem hk]
    exact congrArg some this
  · rintro ⟨k, hk, hb, rfl⟩
    have hsg := sig_lt (k := k) h3 h4 h1 h2 (by rw [Nat.mul_comm]; exact h9) (by rw [Nat.mul_comm C R]; exact hk)
    rw [Nat.mul_comm C R] at hsg
    have hkl : k < xs.length := by omega
    rw [mir_get (by omega), hsg.2, List.getD_eq_getElem?_getD, setL_bit.1 hb]; rfl

theorem swap_player {P : Nat} (hP : P = 1 ∨ P = 2) : swapI (P : Int) = ((3 - P : Nat) : Int) := by rcases hP with rfl | rfl <;> rfl

theorem joins_turned {R C P : Nat} {r c : Int} {xs : List Int} (hs : Sides r c R C xs) (hP : P = 1 ∨ P = 2) : joinsN R C P (setL xs.reverse (P : Int)) = joinsN R C P (setL xs (P : Int)) := by
  have hlen := hs.2.2.2.2.2.2.2.1
  have hh := hex_ok (board_of_sides hs) (set_lt hs (P : Int))
  unfold hexB at hh
  simp only [Bool.and_eq_true, beq_iff_eq] at hh
  rw [setL_reverse, hlen]
  rcases hP with rfl | rfl
  · exact hh.1.1.1.2
  · exact hh.1.1.2

theorem joins_mirrored {R C P : Nat} {r c : Int} {xs : List Int} (hs : Sides r c R C xs) (hP : P = 1 ∨ P = 2) : joinsN C R (3 - P) (setL (mir R C xs) ((3 - P : Nat) : Int)) = joinsN R C P (setL xs (P : Int)) := by
  have hh := hex_ok (board_of_sides hs) (set_lt hs (P : Int))
  unfold hexB at hh
  simp only [Bool.and_eq_true, beq_iff_eq] at hh
  rw [← swap_player hP, setL_mir hs]
  rcases hP with rfl | rfl
  · exact hh.1.2
  · exact hh.2

/-! ### gaps -/
theorem gap_spec {R C P : Nat} {r c : Int} {xs : List Int} (hs : Sides r c R C xs) :
    (∃ k : Nat, gapN (masksN R C) (setL xs (P : Int)) (setL xs 0) (sideN R C P false) (sideN R C P true) (R * C) = (k : Int) ∧ IsGap (masksN R C) (setL xs (P : Int)) (setL xs 0) (sideN R C P false) (sideN R C P true) k) ∨
    (gapN (masksN R C) (setL xs (P : Int)) (setL xs 0) (sideN R C P false) (sideN R C P true) (R * C) = -1 ∧ ∀ k, ¬ Hits (masksN R C) (setL xs (P : Int)) (setL xs 0) (sideN R C P false) (sideN R C P true) k) :=
  gapN_spec hs.2.2.2.2.2.2.1 (set_lt9 hs _) (set_lt hs 0)

theorem hits_zero {M : List Nat} {own free edge last : Nat} : Hits M own free edge last 0 ↔ ∃ j, last.testBit j = true ∧ Reach M own edge j := by
  unfold Hits
  constructor
  · rintro ⟨j, h1, h2⟩; exact ⟨j, h1, cost_zero.1 h2⟩
  · rintro ⟨j, h1, h2⟩; exact ⟨j, h1, cost_zero.2 h2⟩

theorem hits_any {M : List Nat} {own free edge last : Nat} : (∃ k, Hits M own free edge last k) ↔ ∃ j, last.testBit j = true ∧ Reach M (own ||| free) edge j := by
  unfold Hits
  constructor
  · rintro ⟨k, j, h1, h2⟩; exact ⟨j, h1, cost_any.1 ⟨k, h2⟩⟩
  · rintro ⟨j, h1, h2⟩
    obtain ⟨k, h2⟩ := cost_any.2 h2
    exact ⟨k, j, h1, h2⟩

theorem gap_zero_iff {R C P : Nat} {r c : Int} {xs : List Int} (hs : Sides r c R C xs) : gapN (masksN R C) (setL xs (P : Int)) (setL xs 0) (sideN R C P false) (sideN R C P true) (R * C) = 0 ↔ joinsN R C P (setL xs (P : Int)) = true := by
  rw [joins_iff (set_lt9 hs _), ← hits_zero (free := setL xs 0)]
  rcases gap_spec (P := P) hs with ⟨k, hk, hg⟩ | ⟨hk, hn⟩
  · rw [hk]
    constructor
    · intro h; obtain rfl : k = 0 := by omega
      exact hg.1
    · intro h
      rcases Nat.eq_zero_or_pos k with h0 | h0
      · rw [h0]; rfl
      · exact absurd h (hg.2 0 h0)
  · rw [hk]
    constructor
    · intro h; cases h
    · intro h; exact absurd h (hn 0)

theorem gap_none_iff {R C P : Nat} {r c : Int} {xs : List Int} (hs : Sides r c R C xs) (hP : P = 1 ∨ P = 2) : gapN (masksN R C) (setL xs (P : Int)) (setL xs 0) (sideN R C P false) (sideN R C P true) (R * C) = -1 ↔ joinsN R C (3 - P) (setL xs ((3 - P : Nat) : Int)) = true := by
  have ho := other_joins hs hP
  have hany : (∃ k, Hits (masksN R C) (setL xs (P : Int)) (setL xs 0) (sideN R C P false) (sideN R C P true) k) ↔ joinsN R C P (setL xs (P : Int) ||| setL xs 0) = true := by
    rw [joins_iff (Nat.or_lt_two_pow (set_lt9 hs _) (set_lt9 hs 0)), hits_any]
  rcases gap_spec (P := P) hs with ⟨k, hk, hg⟩ | ⟨hk, hn⟩
  · have := hany.1 ⟨k, hg.1⟩
    rw [ho] at this
    rw [hk]
    constructor
    · intro h; omega
    · intro h; rw [h] at this; cases this
  · rw [hk]
    refine ⟨fun _ => ?_, fun _ => rfl⟩
    have : ¬ joinsN R C P (setL xs (P : Int) ||| setL xs 0) = true := fun h => by
      obtain ⟨k, h⟩ := hany.2 h
      exact hn k h
    rw [ho] at this
    simpa using this

/-- A stone more on a free cell. -/
theorem set_more {R C P : Nat} {r c : Int} {xs : List Int} (hs : Sides r c R C xs) (hP : P = 1 ∨ P = 2) {k : Nat} (hk : xs[k]? = some 0) : setL (xs.set k (P : Int)) (P : Int) = setL xs (P : Int) ||| (1 <<< k) ∧ setL (xs.set k (P : Int)) 0 = without (setL xs 0) k ∧ Sides r c R C (xs.set k (P : Int)) := by
  have hkl : k < xs.length := (List.getElem?_eq_some_iff.1 hk).1
  refine ⟨?_, ?_, ?_⟩
  · apply Nat.eq_of_testBit_eq
    intro j
    rw [with_bit, Bool.eq_iff_iff, Bool.or_eq_true, decide_eq_true_iff, setL_bit, setL_bit, List.getElem?_set]
    by_cases e : k = j
    · subst e; simp [hkl]
    · rw [if_neg e]
      constructor
      · exact .inl
      · rintro (h | h)
        · exact h
        · exact absurd h.symm e
  · apply Nat.eq_of_testBit_eq
    intro j
    rw [without_bit, Bool.eq_iff_iff, Bool.and_eq_true, decide_eq_true_iff, setL_bit, setL_bit, List.getElem?_set]
    by_cases e : k = j
    · subst e
      rcases hP with rfl | rfl <;> simp [hkl]
    · rw [if_neg e]
      exact ⟨fun h => ⟨h, fun h2 => e h2.symm⟩, fun h => h.1⟩
  · obtain ⟨a1, a2, a3, a4, a5, a6, a7, a8, a9⟩ := hs
    refine ⟨a1, a2, a3, a4, a5, a6, a7, by rw [List.length_set]; exact a8, ?_⟩
    rw [List.all_eq_true]
    intro x hx
    rcases List.mem_or_eq_of_mem_set hx with hx | rfl
    · exact List.all_eq_true.1 a9 x hx
    · rcases hP with rfl | rfl <;> rfl

theorem gap_stone {R C P : Nat} {r c : Int} {xs : List Int} (hs : Sides r c R C xs) (hP : P = 1 ∨ P = 2) {k : Nat} (hk : xs[k]? = some 0) {G : Nat} (hG : IsGap (masksN R C) (setL xs (P : Int)) (setL xs 0) (sideN R C P false) (sideN R C P true) G) :
    gapN (masksN R C) (setL (xs.set k (P : Int)) (P : Int)) (setL (xs.set k (P : Int)) 0) (sideN R C P false) (sideN R C P true) (R * C) = (G : Int) ∨
    (1 ≤ G ∧ gapN (masksN R C) (setL (xs.set k (P : Int)) (P : Int)) (setL (xs.set k (P : Int)) 0) (sideN R C P false) (sideN R C P true) (R * C) = (G : Int) - 1) := by
  obtain ⟨e1, e2, hs'⟩ := set_more hs hP hk
  have hm := gap_more (setL_bit.2 hk) hG
  rcases gap_spec (P := P) hs' with ⟨K, hK, hg⟩ | ⟨hK, hn⟩
  · rw [hK]
    rw [e1, e2] at hg
    rcases hm with hm | ⟨h1, hm⟩
    · exact .inl (by rw [hg.unique hm])
    · exact .inr ⟨h1, by have := hg.unique hm; omega⟩
  · rw [e1, e2] at hn
    rcases hm with hm | ⟨_, hm⟩
    · exact absurd hm.1 (hn _)
    · exact absurd hm.1 (hn _)

/-! ### the cells that close a gap -/
def goodB (M : List Nat) (own free edge last n c : Nat) : Bool := free.testBit c && decide (gapN M (own ||| (1 <<< c)) (without free c) edge last n = gapN M own free edge last n - 1)

theorem gapN_is {M : List Nat} {own free edge last n k : Nat} (hn : n ≤ 9) (ho : own < 2 ^ 9) (hf : free < 2 ^ n) (h : IsGap M own free edge last k) : gapN M own free edge last n = (k : Int) := by
  rcases gapN_spec (M := M) (edge := edge) (last := last) hn ho hf with ⟨k', hk, hg⟩ | ⟨_, hno⟩
  · rw [hk, hg.unique h]
  · exact absurd h.1 (hno k)

theorem with_lt {x c n : Nat} (hx : x < 2 ^ n) (hc : c < n) : x ||| (1 <<< c) < 2 ^ n := by
  refine Nat.or_lt_two_pow hx ?_
  rw [Nat.one_shiftLeft]; exact Nat.pow_lt_pow_right (by decide) hc

theorem good_count {M : List Nat} {edge last n : Nat} (hn : n ≤ 9) : ∀ {K own free : Nat}, own < 2 ^ 9 → free < 2 ^ n → IsGap M own free edge last K → K ≤ (List.range n).countP (goodB M own free edge last n)
  | 0, _, _, _, _, _ => Nat.zero_le _
  | K + 1, own, free, ho, hf, h => by
    obtain ⟨c1, hc1, hg1⟩ := gap_cell h
    have hc1n := bit_small hf hc1
    have ho1 : own ||| (1 <<< c1) < 2 ^ 9 := with_lt ho (by omega)
    have hf1 : without free c1 < 2 ^ n := without_lt hf
    have ih := good_count hn ho1 hf1 hg1
    have hG := gapN_is hn ho hf h
    have hG1 := gapN_is hn ho1 hf1 hg1
    have hp : goodB M own free edge last n c1 = true := by
      unfold goodB
      rw [hc1, hG1, hG, decide_eq_true (by omega)]; rfl
    have hq : goodB M (own ||| (1 <<< c1)) (without free c1) edge last n c1 = false := by
      unfold goodB
      rw [without_bit]; simp
    have hqp : ∀ x ∈ List.range n, goodB M (own ||| (1 <<< c1)) (without free c1) edge last n x = true → goodB M own free edge last n x = true := by
      intro x hx hg
      rw [List.mem_range] at hx
      unfold goodB at hg ⊢
      rw [Bool.and_eq_true, decide_eq_true_iff, without_bit, Bool.and_eq_true, decide_eq_true_iff] at hg
      obtain ⟨⟨hfx, hne⟩, hgx⟩ := hg
      rw [hfx, Bool.true_and, decide_eq_true_iff, hG]
      rw [hG1] at hgx
      have hox : own ||| (1 <<< x) < 2 ^ 9 := with_lt ho (by omega)
      rcases gap_more hfx h with hm | ⟨_, hm⟩
      · exfalso
        have hcx : (without free x).testBit c1 = true := by rw [without_bit, hc1]; simp; exact fun e => hne e.symm
        have hsame : own ||| (1 <<< x) ||| (1 <<< c1) = own ||| (1 <<< c1) ||| (1 <<< x) := by rw [Nat.or_assoc, Nat.or_comm (1 <<< x), ← Nat.or_assoc]
        have hsame2 : without (without free x) c1 = without (without free c1) x := by
          apply Nat.eq_of_testBit_eq
          intro j
          rw [without_bit, without_bit, without_bit, without_bit, Bool.and_assoc, Bool.and_comm (decide (j ≠ x)), ← Bool.and_assoc]
        rcases gap_more hcx hm with hmm | ⟨_, hmm⟩
        · rw [hsame, hsame2] at hmm
          have := gapN_is hn (with_lt ho1 (by omega)) (without_lt hf1) hmm
          omega
        · rw [hsame, hsame2] at hmm
          have := gapN_is hn (with_lt ho1 (by omega)) (without_lt hf1) hmm
          omega
      · rw [gapN_is hn hox (without_lt hf) hm]; omega
    have := countP_lt hqp (show c1 ∈ List.range n by rw [List.mem_range]; exact hc1n) hp hq
    omega

end Go.Proofs.YtiflfnlpkhghpaaDoor
