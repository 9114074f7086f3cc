/- Texts of this seat, in their order, put together by program. -/
import Derived.Test.YtmhflbomploidaaDoorI9
set_option linter.unusedSimpArgs false
set_option linter.unusedVariables false
set_option linter.unusedSectionVars false
/- Promise 6: mirrored twice it is as before. -/
namespace Go.Proofs.YtmhflbomploidaaDoor
open Go Go.Ip Go.RowKit G

variable (g : Nat → PV) (lf n : Nat)

end Go.Proofs.YtmhflbomploidaaDoor

/- What the laws of chapter 2 say of positions, as facts on sets of cells. No program text. -/
set_option maxRecDepth 20000
namespace Go.Proofs.YtmhflbomploidaaDoor

/-! ### joined sides -/
theorem joins_iff {R C P S : Nat} (hS : S < 2 ^ 9) : joinsN R C P S = true ↔ ∃ j, (sideN R C P true).testBit j = true ∧ Reach (masksN R C) S (sideN R C P false) j := by
  unfold joinsN
  rw [Bool.not_eq_true', decide_eq_false_iff_not]
  constructor
  · intro h
    apply Classical.byContradiction
    intro hn
    exact h (and_zero.2 fun j h1 h2 => hn ⟨j, h2, (grow_bit hS j).1 h1⟩)
  · rintro ⟨j, h1, h2⟩ h
    exact and_zero.1 h j ((grow_bit hS j).2 h2) h1

theorem joins_mono {R C P S T : Nat} (hS : S < 2 ^ 9) (hT : T < 2 ^ 9) (h : ∀ j, S.testBit j = true → T.testBit j = true) (hj : joinsN R C P S = true) : joinsN R C P T = true := by
  obtain ⟨j, h1, h2⟩ := (joins_iff hS).1 hj
  exact (joins_iff hT).2 ⟨j, h1, h2.mono h (fun _ h => h)⟩

theorem compl_bit {n S : Nat} (hS : S < 2 ^ n) (j : Nat) : (2 ^ n - 1 - S).testBit j = (decide (j < n) && !S.testBit j) := by
  rw [Nat.sub_sub, Nat.add_comm 1 S]; exact Nat.testBit_two_pow_sub_succ hS j

theorem hex {R C P S : Nat} (hB : BoardOf R C) (hP : P = 1 ∨ P = 2) (hS : S < 2 ^ (R * C)) : joinsN R C P S = !joinsN R C (3 - P) (2 ^ (R * C) - 1 - S) := by
  have key : ∀ T, T < 2 ^ (R * C) → joinsN R C 1 T = !joinsN R C 2 (2 ^ (R * C) - 1 - T) := fun T hT => by
    have := hex_ok hB hT
    unfold hexB at this
    simp only [Bool.and_eq_true] at this
    have := this.1.1.1.1
    cases h1 : joinsN R C 1 T <;> cases h2 : joinsN R C 2 (2 ^ (R * C) - 1 - T) <;> rw [h1, h2] at this <;> first | rfl | cases this
  rcases hP with rfl | rfl
  · exact key S hS
  · have h2 := key (2 ^ (R * C) - 1 - S) (by omega)
    rw [show 2 ^ (R * C) - 1 - (2 ^ (R * C) - 1 - S) = S by omega] at h2
    rw [show 3 - 2 = 1 from rfl, h2, Bool.not_not]

theorem content_cases {R C : Nat} {r c : Int} {xs : List Int} (hs : Sides r c R C xs) {j : Nat} (hj : j < R * C) : xs[j]? = some 0 ∨ xs[j]? = some 1 ∨ xs[j]? = some 2 := by
  obtain ⟨_, _, _, _, _, _, _, hlen, hall⟩ := hs
  have hj' : j < xs.length := by omega
  have := List.all_eq_true.1 hall _ (List.getElem_mem hj')
  unfold contentB at this
  have := of_decide_eq_true this
  rw [List.getElem?_eq_getElem hj']
  have h3 : xs[j] = 0 ∨ xs[j] = 1 ∨ xs[j] = 2 := by omega
  rcases h3 with h | h | h <;> rw [h] <;> simp

theorem set_lt {R C : Nat} {r c : Int} {xs : List Int} (hs : Sides r c R C xs) (w : Int) : setL xs w < 2 ^ (R * C) := setL_lt w (by have := hs.2.2.2.2.2.2.2.1; omega)
theorem set_lt9 {R C : Nat} {r c : Int} {xs : List Int} (hs : Sides r c R C xs) (w : Int) : setL xs w < 2 ^ 9 := setL_lt w (by have := hs.2.2.2.2.2.2.2.1; have := hs.2.2.2.2.2.2.1; omega)

theorem set_in {R C : Nat} {r c : Int} {xs : List Int} (hs : Sides r c R C xs) {w : Int} {j : Nat} (h : (setL xs w).testBit j = true) : j < R * C := bit_small (set_lt hs w) h

theorem joinsL_eq {R C P : Nat} {xs : List Int} (hb : posB (R : Int) (C : Int) xs = true) (hP : P = 1 ∨ P = 2) : joinsL (R : Int) (C : Int) xs (P : Int) = joinsN R C P (setL xs (P : Int)) := by
  have hp : playerB (P : Int) = true := by rcases hP with rfl | rfl <;> rfl
  unfold joinsL
  rw [hb, hp]; rfl

/-! ### filled -/
/-! ### turned and mirrored -/
theorem moved_bit (f : Nat → Nat) (S : Nat) : ∀ (n j : Nat), (moved f S n).testBit j = true ↔ ∃ k, k < n ∧ S.testBit k = true ∧ j = f k
  | 0, j => by simp [moved]
  | n + 1, j => by
    rw [moved, Nat.testBit_or, Bool.or_eq_true, moved_bit f S n j]
    have hlast : ((if S.testBit n = true then 1 <<< f n else 0).testBit j = true) ↔ (S.testBit n = true ∧ j = f n) := by
      by_cases h : S.testBit n = true
      · rw [if_pos h, one_bit, decide_eq_true_iff]; simp [h]
      · rw [if_neg h, Nat.zero_testBit]; simp [h]
    rw [hlast]
    constructor
    · rintro (⟨k, h1, h2, h3⟩ | ⟨h1, h2⟩)
      · exact ⟨k, by omega, h2, h3⟩
      · exact ⟨n, by omega, h1, h2⟩
    · rintro ⟨k, h1, h2, h3⟩
      by_cases e : k = n
      · subst e; exact .inr ⟨h2, h3⟩
      · exact .inl ⟨k, by omega, h2, h3⟩

/-! ### gaps -/
/-! ### the cells that close a gap -/
end Go.Proofs.YtmhflbomploidaaDoor

/- Who wins, told by the sets of both players' stones: what it is, that a stone more never harms, that to move never harms, and that turned and mirrored it is the same. No program text. -/
set_option maxRecDepth 20000
namespace Go.Proofs.YtmhflbomploidaaDoor
open Go Go.Ip G

/-- A stone of the one to move. -/
def putA (t k a : Nat) : Nat := if t = 1 then a ||| (1 <<< k) else a
def putB (t k b : Nat) : Nat := if t = 1 then b else b ||| (1 <<< k)

def winF (R C : Nat) : Nat → Nat → Nat → Nat → Nat
  | 0, a, b, t => if joinsN R C 1 a = true then 1 else if joinsN R C 2 b = true then 2 else 3 - t
  | f + 1, a, b, t => if joinsN R C 1 a = true then 1 else if joinsN R C 2 b = true then 2 else
      if ((List.range (R * C)).any fun k => !(a ||| b).testBit k && decide (winF R C f (putA t k a) (putB t k b) (3 - t) = t)) = true then t else 3 - t

/-- The free cells. -/
def frN (n a b : Nat) : Nat := (List.range n).countP fun k => !(a ||| b).testBit k
def winN (R C a b t : Nat) : Nat := winF R C (R * C) a b t

theorem put_bit (t k a b j : Nat) : (putA t k a ||| putB t k b).testBit j = ((a ||| b).testBit j || decide (j = k)) := by
  unfold putA putB
  split
  · rw [Nat.testBit_or, with_bit, Nat.testBit_or]; cases a.testBit j <;> cases b.testBit j <;> simp
  · rw [Nat.testBit_or, with_bit, Nat.testBit_or, Bool.or_assoc]

theorem fr_put {n t k a b : Nat} (hk : k < n) (h : (a ||| b).testBit k = false) : frN n (putA t k a) (putB t k b) + 1 ≤ frN n a b := by
  refine countP_lt (c := k) (fun x _ hx => ?_) (List.mem_range.2 hk) (by show (!(a ||| b).testBit k) = true; rw [h]; rfl) (by show (!(putA t k a ||| putB t k b).testBit k) = false; rw [put_bit]; simp)
  rw [put_bit] at hx
  cases e : (a ||| b).testBit x with
  | false => rfl
  | true => rw [e] at hx; simp at hx

theorem fr_le (n a b : Nat) : frN n a b ≤ n := by
  have := List.countP_le_length (p := fun k => !(a ||| b).testBit k) (l := List.range n)
  rw [List.length_range] at this; exact this

theorem fr_zero {n a b : Nat} (h : frN n a b ≤ 0) {k : Nat} (hk : k < n) : (a ||| b).testBit k = true := by
  have h0 : frN n a b = 0 := by omega
  have := List.countP_eq_zero.1 h0 k (List.mem_range.2 hk)
  cases e : (a ||| b).testBit k with
  | true => rfl
  | false => rw [e] at this; exact (this rfl).elim

theorem winF_fuel {R C : Nat} : ∀ (f f' a b t : Nat), frN (R * C) a b ≤ f → frN (R * C) a b ≤ f' → winF R C f a b t = winF R C f' a b t
  | 0, 0, a, b, t, _, _ => rfl
  | 0, f' + 1, a, b, t, h, _ => by
    rw [winF, winF]
    have : ((List.range (R * C)).any fun k => !(a ||| b).testBit k && decide (winF R C f' (putA t k a) (putB t k b) (3 - t) = t)) = false := by
      rw [List.any_eq_false]
      intro k hk
      rw [fr_zero h (List.mem_range.1 hk)]; simp
    rw [this]; rfl
  | f + 1, 0, a, b, t, _, h => by
    rw [winF, winF]
    have : ((List.range (R * C)).any fun k => !(a ||| b).testBit k && decide (winF R C f (putA t k a) (putB t k b) (3 - t) = t)) = false := by
      rw [List.any_eq_false]
      intro k hk
      rw [fr_zero h (List.mem_range.1 hk)]; simp
    rw [this]; rfl
  | f + 1, f' + 1, a, b, t, h, h' => by
    rw [winF, winF]
    have : ((List.range (R * C)).any fun k => !(a ||| b).testBit k && decide (winF R C f (putA t k a) (putB t k b) (3 - t) = t)) = ((List.range (R * C)).any fun k => !(a ||| b).testBit k && decide (winF R C f' (putA t k a) (putB t k b) (3 - t) = t)) := by
      rw [Bool.eq_iff_iff, List.any_eq_true, List.any_eq_true]
      refine exists_congr fun k => and_congr_right fun hk => ?_
      rw [← Bool.eq_iff_iff]
      cases e : (a ||| b).testBit k with
      | true => rfl
      | false =>
        have := fr_put (t := t) (List.mem_range.1 hk) e
        rw [winF_fuel f f' (putA t k a) (putB t k b) (3 - t) (by omega) (by omega)]
    rw [this]

/-- What is asked of a position that nobody has won: is there a move after which the one to move wins? -/
def moveB (R C a b t : Nat) : Bool := (List.range (R * C)).any fun k => !(a ||| b).testBit k && decide (winN R C (putA t k a) (putB t k b) (3 - t) = t)

theorem winN_eq (R C a b t : Nat) : winN R C a b t = if joinsN R C 1 a = true then 1 else if joinsN R C 2 b = true then 2 else if moveB R C a b t = true then t else 3 - t := by
  have h1 : winN R C a b t = winF R C (R * C + 1) a b t := winF_fuel _ _ _ _ _ (fr_le _ _ _) (by have := fr_le (R * C) a b; omega)
  rw [h1, winF]; rfl

theorem moveB_iff {R C a b t : Nat} : moveB R C a b t = true ↔ ∃ k, k < R * C ∧ (a ||| b).testBit k = false ∧ winN R C (putA t k a) (putB t k b) (3 - t) = t := by
  unfold moveB
  rw [List.any_eq_true]
  constructor
  · rintro ⟨k, hk, h⟩
    rw [Bool.and_eq_true, decide_eq_true_eq] at h
    exact ⟨k, List.mem_range.1 hk, by simpa using h.1, h.2⟩
  · rintro ⟨k, hk, h1, h2⟩
    exact ⟨k, List.mem_range.2 hk, by rw [h1, h2]; simp⟩

theorem win_cases {R C a b t : Nat} (ht : t = 1 ∨ t = 2) : winN R C a b t = 1 ∨ winN R C a b t = 2 := by
  rw [winN_eq]
  repeat' split
  all_goals first | exact .inl rfl | exact .inr rfl | omega

/-- A position, by its two sets. -/
def Pos (R C a b : Nat) : Prop := a < 2 ^ (R * C) ∧ b < 2 ^ (R * C) ∧ ∀ j, a.testBit j = true → b.testBit j = true → False

theorem Pos.lt9 {R C a b : Nat} (hB : BoardOf R C) (h : Pos R C a b) : a < 2 ^ 9 ∧ b < 2 ^ 9 := by
  have : 2 ^ (R * C) ≤ 2 ^ 9 := Nat.pow_le_pow_right (by decide) hB.2.2.2.2
  exact ⟨Nat.lt_of_lt_of_le h.1 this, Nat.lt_of_lt_of_le h.2.1 this⟩

theorem Pos.put {R C a b t k : Nat} (h : Pos R C a b) (hk : k < R * C) (hf : (a ||| b).testBit k = false) : Pos R C (putA t k a) (putB t k b) := by
  rw [Nat.testBit_or, Bool.or_eq_false_iff] at hf
  have hl : 1 <<< k < 2 ^ (R * C) := by rw [Nat.one_shiftLeft]; exact Nat.pow_lt_pow_right (by decide) hk
  unfold putA putB
  split
  · refine ⟨Nat.or_lt_two_pow h.1 hl, h.2.1, fun j h1 h2 => ?_⟩
    rw [with_bit, Bool.or_eq_true, decide_eq_true_eq] at h1
    rcases h1 with h1 | rfl
    · exact h.2.2 j h1 h2
    · rw [hf.2] at h2; cases h2
  · refine ⟨h.1, Nat.or_lt_two_pow h.2.1 hl, fun j h1 h2 => ?_⟩
    rw [with_bit, Bool.or_eq_true, decide_eq_true_eq] at h2
    rcases h2 with h2 | rfl
    · exact h.2.2 j h1 h2
    · rw [hf.1] at h1; cases h1

/-- Never have both joined. -/
theorem Pos.both {R C a b : Nat} (hB : BoardOf R C) (h : Pos R C a b) (h1 : joinsN R C 1 a = true) : joinsN R C 2 b = false := by
  cases e : joinsN R C 2 b with
  | false => rfl
  | true =>
    have l9 := h.lt9 hB
    have hc : 2 ^ (R * C) - 1 - a < 2 ^ 9 := by
      have : 2 ^ (R * C) ≤ 2 ^ 9 := Nat.pow_le_pow_right (by decide) hB.2.2.2.2
      omega
    have h2 := joins_mono (P := 2) l9.2 hc (fun j hj => by
      rw [compl_bit h.1]
      have hjn := bit_small h.2.1 hj
      cases ea : a.testBit j with
      | false => simp [hjn]
      | true => exact (h.2.2 j ea hj).elim) e
    have h3 := hex hB (.inl rfl) h.1
    rw [h1, show 3 - 1 = 2 from rfl, h2] at h3
    cases h3

/-- If nobody has joined there is a free cell. -/
theorem Pos.free {R C a b : Nat} (hB : BoardOf R C) (h : Pos R C a b) (h1 : joinsN R C 1 a = false) (h2 : joinsN R C 2 b = false) : ∃ k, k < R * C ∧ (a ||| b).testBit k = false := by
  apply Classical.byContradiction
  intro hn
  have hall : ∀ k, k < R * C → (a ||| b).testBit k = true := fun k hk => by
    cases e : (a ||| b).testBit k with
    | true => rfl
    | false => exact (hn ⟨k, hk, e⟩).elim
  have hb : 2 ^ (R * C) - 1 - a = b := by
    apply Nat.eq_of_testBit_eq
    intro j
    rw [compl_bit h.1]
    by_cases hj : j < R * C
    · have := hall j hj
      rw [Nat.testBit_or, Bool.or_eq_true] at this
      cases ea : a.testBit j with
      | true =>
        cases eb : b.testBit j with
        | false => simp
        | true => exact (h.2.2 j ea eb).elim
      | false =>
        rw [ea] at this
        simp at this
        simp [hj, this]
    · cases eb : b.testBit j with
      | true => exact (hj (bit_small h.2.1 eb)).elim
      | false => simp [hj]
  have h3 := hex hB (.inl rfl) h.1
  rw [show 3 - 1 = 2 from rfl, hb, h1, h2] at h3
  cases h3

theorem win_first {R C a b t : Nat} (h : joinsN R C 1 a = true) : winN R C a b t = 1 := by rw [winN_eq, if_pos h]
theorem win_second {R C a b t : Nat} (hB : BoardOf R C) (hp : Pos R C a b) (h : joinsN R C 2 b = true) : winN R C a b t = 2 := by
  rw [winN_eq, if_neg, if_pos h]
  intro h1; rw [hp.both hB h1] at h; cases h
theorem win_open {R C a b t : Nat} (h1 : joinsN R C 1 a = false) (h2 : joinsN R C 2 b = false) : winN R C a b t = if moveB R C a b t = true then t else 3 - t := by
  rw [winN_eq, if_neg (by rw [h1]; decide), if_neg (by rw [h2]; decide)]

/-- No worse for the first player. -/
def Better (a b a' b' : Nat) : Prop := (∀ j, a.testBit j = true → a'.testBit j = true) ∧ (∀ j, b'.testBit j = true → b.testBit j = true)

theorem better_fr {n a b k : Nat} : Better a b (a ||| (1 <<< k)) b := ⟨fun j hj => by rw [with_bit, hj]; rfl, fun _ h => h⟩

theorem win_mono_aux {R C : Nat} (hB : BoardOf R C) : ∀ (M m a b a' b' t : Nat), frN (R * C) a' b' ≤ M → frN (R * C) a b ≤ m → Pos R C a b → Pos R C a' b' → Better a b a' b' → (t = 1 ∨ t = 2) → winN R C a b t = 1 → winN R C a' b' t = 1 := by
  intro M
  induction M using Nat.strongRecOn with
  | _ M ihM =>
  intro m
  induction m using Nat.strongRecOn with
  | _ m ihm =>
  intro a b a' b' t hM hm hp hp' hbt ht hw
  have l9 := hp.lt9 hB
  have l9' := hp'.lt9 hB
  cases j1' : joinsN R C 1 a' with
  | true => exact win_first j1'
  | false =>
  cases j1 : joinsN R C 1 a with
  | true => rw [joins_mono l9.1 l9'.1 hbt.1 j1] at j1'; cases j1'
  | false =>
  cases j2 : joinsN R C 2 b with
  | true => rw [win_second hB hp j2] at hw; cases hw
  | false =>
  cases j2' : joinsN R C 2 b' with
  | true => rw [joins_mono l9'.2 l9.2 hbt.2 j2'] at j2; cases j2
  | false =>
  obtain ⟨d, hd, hdf⟩ := hp'.free hB j1' j2'
  -- to move never harms, for smaller positions
  have extra : ∀ x y, Pos R C x y → frN (R * C) x y ≤ M → (∀ z, frN (R * C) z y < frN (R * C) x y → Pos R C z y → Better x y z y → winN R C z y 2 = 1) → winN R C x y 2 = 1 → winN R C x y 1 = 1 := by
    intro x y hxy hfr hmono hwx
    cases k1 : joinsN R C 1 x with
    | true => exact win_first k1
    | false =>
    cases k2 : joinsN R C 2 y with
    | true => rw [win_second hB hxy k2] at hwx; cases hwx
    | false =>
    obtain ⟨e, he, hef⟩ := hxy.free hB k1 k2
    rw [win_open k1 k2, if_pos]
    refine moveB_iff.2 ⟨e, he, hef, ?_⟩
    have h1 := fr_put (t := 1) he hef
    exact hmono (x ||| (1 <<< e)) (by exact h1) (hxy.put (t := 1) he hef) (better_fr (n := 0))
  rw [win_open j1 j2] at hw
  rcases ht with rfl | rfl
  · -- the first player to move
    have hmv : moveB R C a b 1 = true := by
      cases e : moveB R C a b 1 with
      | true => rfl
      | false => rw [e] at hw; simp at hw
    obtain ⟨c, hc, hcf, hcw⟩ := moveB_iff.1 hmv
    have hfc := fr_put (t := 1) hc hcf
    have hpc := hp.put (t := 1) hc hcf
    by_cases hc' : (a' ||| b').testBit c = false
    · rw [win_open j1' j2', if_pos]
      refine moveB_iff.2 ⟨c, hc, hc', ?_⟩
      have hfc' := fr_put (t := 1) hc hc'
      refine ihM (frN (R * C) (putA 1 c a') (putB 1 c b')) (by omega) _ (putA 1 c a) (putB 1 c b) _ _ _ (Nat.le_refl _) (Nat.le_refl _) hpc (hp'.put hc hc') ⟨fun j hj => ?_, fun j hj => hbt.2 j hj⟩ (.inr rfl) hcw
      simp only [putA, if_true] at hj ⊢
      rw [with_bit, Bool.or_eq_true] at hj ⊢
      exact hj.imp_left (hbt.1 j)
    · have hca : a'.testBit c = true := by
        rw [Nat.testBit_or] at hc' hcf
        rw [Bool.or_eq_false_iff] at hcf
        cases ea : a'.testBit c with
        | true => rfl
        | false =>
          rw [ea, Bool.false_or] at hc'
          have := hbt.2 c (by simpa using hc')
          rw [hcf.2] at this; cases this
      have hw2 : winN R C a' b' 2 = 1 := by
        refine ihm (frN (R * C) (putA 1 c a) (putB 1 c b)) (by omega) (putA 1 c a) (putB 1 c b) a' b' 2 hM (Nat.le_refl _) hpc hp' ⟨fun j hj => ?_, fun j hj => hbt.2 j hj⟩ (.inr rfl) hcw
        simp only [putA, if_true] at hj
        rw [with_bit, Bool.or_eq_true, decide_eq_true_eq] at hj
        rcases hj with hj | rfl
        · exact hbt.1 j hj
        · exact hca
      exact extra a' b' hp' hM (fun z hz hpz hbz => ihM _ (by omega) _ a' b' z b' 2 (Nat.le_refl _) (Nat.le_refl _) hp' hpz hbz (.inr rfl) hw2) hw2
  · -- the second player to move
    have hmv : moveB R C a b 2 = false := by
      cases e : moveB R C a b 2 with
      | false => rfl
      | true => rw [e] at hw; simp at hw
    have hall : ∀ k, k < R * C → (a ||| b).testBit k = false → winN R C (putA 2 k a) (putB 2 k b) 1 = 1 := fun k hk hkf => by
      rcases win_cases (R := R) (C := C) (a := putA 2 k a) (b := putB 2 k b) (t := 1) (.inl rfl) with h | h
      · exact h
      · rw [moveB_iff.2 ⟨k, hk, hkf, h⟩] at hmv; cases hmv
    have hw' : winN R C a b 2 = 1 := by rw [win_open j1 j2, hmv]; rfl
    rw [win_open j1' j2', if_neg]
    intro hmv'
    obtain ⟨e, he, hef, hew⟩ := moveB_iff.1 hmv'
    have hfe := fr_put (t := 2) he hef
    have hpe := hp'.put (t := 2) he hef
    have hne : winN R C (putA 2 e a') (putB 2 e b') 1 = 1 := by
      by_cases hef2 : (a ||| b).testBit e = false
      · refine ihM (frN (R * C) (putA 2 e a') (putB 2 e b')) (by omega) _ (putA 2 e a) (putB 2 e b) _ _ _ (Nat.le_refl _) (Nat.le_refl _) (hp.put he hef2) hpe ⟨fun j hj => hbt.1 j hj, fun j hj => ?_⟩ (.inl rfl) (hall e he hef2)
        simp only [putB] at hj ⊢
        rw [if_neg (by decide), with_bit, Bool.or_eq_true] at hj ⊢
        exact hj.imp_left (hbt.2 j)
      · have heb : b.testBit e = true := by
          rw [Nat.testBit_or] at hef2 hef
          rw [Bool.or_eq_false_iff] at hef
          cases eb : b.testBit e with
          | true => rfl
          | false =>
            rw [eb, Bool.or_false] at hef2
            have := hbt.1 e (by simpa using hef2)
            rw [hef.1] at this; cases this
        have hbt2 : Better a b (putA 2 e a') (putB 2 e b') := ⟨fun j hj => hbt.1 j hj, fun j hj => by
          simp only [putB] at hj
          rw [if_neg (by decide), with_bit, Bool.or_eq_true, decide_eq_true_eq] at hj
          rcases hj with hj | rfl
          · exact hbt.2 j hj
          · exact heb⟩
        have hw2 : winN R C (putA 2 e a') (putB 2 e b') 2 = 1 :=
          ihM (frN (R * C) (putA 2 e a') (putB 2 e b')) (by omega) _ a b _ _ _ (Nat.le_refl _) (Nat.le_refl _) hp hpe hbt2 (.inr rfl) hw'
        exact extra _ _ hpe (by omega) (fun z hz hpz hbz => ihM _ (by omega) _ _ _ z _ 2 (Nat.le_refl _) (Nat.le_refl _) hpe hpz hbz (.inr rfl) hw2) hw2
    rw [hne] at hew; cases hew

/-- A stone more never harms. -/
theorem win_mono {R C a b a' b' t : Nat} (hB : BoardOf R C) (hp : Pos R C a b) (hp' : Pos R C a' b') (hbt : Better a b a' b') (ht : t = 1 ∨ t = 2) (hw : winN R C a b t = 1) : winN R C a' b' t = 1 :=
  win_mono_aux hB _ _ a b a' b' t (Nat.le_refl _) (Nat.le_refl _) hp hp' hbt ht hw
theorem win_mono2 {R C a b a' b' t : Nat} (hB : BoardOf R C) (hp : Pos R C a b) (hp' : Pos R C a' b') (hbt : Better a b a' b') (ht : t = 1 ∨ t = 2) (hw : winN R C a' b' t = 2) : winN R C a b t = 2 := by
  rcases win_cases (R := R) (C := C) (a := a) (b := b) ht with h | h
  · rw [win_mono hB hp hp' hbt ht h] at hw; cases hw
  · exact h
/-! ### turned and mirrored -/
/-- Each place is taken by just one. -/
structure Perm (f : Nat → Nat) (n : Nat) : Prop where
  lt : ∀ k, k < n → f k < n
  inj : ∀ i k, i < n → k < n → f i = f k → i = k
  onto : ∀ j, j < n → ∃ k, k < n ∧ f k = j

theorem moved_at {f : Nat → Nat} {S n k : Nat} (hf : Perm f n) (hk : k < n) : (moved f S n).testBit (f k) = S.testBit k := by
  rw [Bool.eq_iff_iff, moved_bit]
  constructor
  · rintro ⟨i, hi, h, e⟩
    rw [hf.inj k i hk hi e]; exact h
  · intro h; exact ⟨k, hk, h, rfl⟩

theorem moved_lt {f : Nat → Nat} {S n : Nat} (hf : Perm f n) : moved f S n < 2 ^ n := by
  apply Nat.lt_pow_two_of_testBit
  intro i hi
  cases e : (moved f S n).testBit i with
  | false => rfl
  | true =>
    obtain ⟨k, hk, _, rfl⟩ := (moved_bit f S n i).1 e
    have := hf.lt k hk
    omega

theorem Pos.moved {R C R' C' a b : Nat} {f : Nat → Nat} (hn : R' * C' = R * C) (hf : Perm f (R * C)) (h : Pos R C a b) : Pos R' C' (moved f a (R * C)) (moved f b (R * C)) := by
  refine ⟨by rw [hn]; exact moved_lt hf, by rw [hn]; exact moved_lt hf, fun j h1 h2 => ?_⟩
  obtain ⟨i, hi, ha, rfl⟩ := (moved_bit _ _ _ _).1 h1
  rw [moved_at hf hi] at h2
  exact h.2.2 i ha h2

end Go.Proofs.YtmhflbomploidaaDoor

/- Rules to walk through a function's plain form with what is to hold in the end: binds, conditions, guards, comparisons, numbers, calls and loops. -/
set_option maxRecDepth 20000
namespace Go.Proofs.YtmhflbomploidaaDoor
open Go Go.Ip G

/-- The result is there, and Q holds of it. -/
def W (x : Res) (Q : PV → PHeap → Prop) : Prop := ∃ v h', x = some (v, h') ∧ Q v h'

section
variable {α : Type} {Q Q' : PV → PHeap → Prop} {P : Program} {t : TypeId} {k : IntKind}

theorem W.ret {v : PV} {h : PHeap} (hq : Q v h) : W (some (v, h)) Q := ⟨v, h, rfl, hq⟩
theorem W.mono {x : Res} (hx : W x Q') (hf : ∀ v h, Q' v h → Q v h) : W x Q := by
  obtain ⟨v, h, e, q⟩ := hx; exact ⟨v, h, e, hf v h q⟩
theorem W.of {x : Res} {v : PV} {h : PHeap} (hx : x = some (v, h)) (hq : Q v h) : W x Q := ⟨v, h, hx, hq⟩
theorem wbd {x : Option α} {v : α} {f : α → Res} (hx : x = some v) (hf : W (f v) Q) : W (x.bind f) Q := by rw [hx]; exact hf
theorem wcall {x : Res} {f : PV × PHeap → Res} (hx : W x Q') (hf : ∀ v h, Q' v h → W (f (v, h)) Q) : W (x.bind f) Q := by
  obtain ⟨v, h, e, q⟩ := hx; rw [e]; exact hf v h q
theorem wT {x y : Res} (h : W x Q) : W (condP (.bool true) x y) Q := h
theorem wF {x y : Res} (h : W y Q) : W (condP (.bool false) x y) Q := h
theorem wg1 {b u : Bool} {x y : Option α} {f : α → Res} (hb : b = u) (hx : W (x.bind f) Q) : W ((wantV (.bool b) u).bind fun v => (bif v then x else y).bind f) Q := by
  subst hb; simpa using hx
theorem wg0 {b u : Bool} {x y : Option α} {f : α → Res} (hb : b = !u) (hy : W (y.bind f) Q) : W ((wantV (.bool b) u).bind fun v => (bif v then x else y).bind f) Q := by
  subst hb; cases u <;> simpa using hy
theorem wpT {u v : PV} {f : PV → Res} (h : W (f u) Q) : W ((pickP (.bool true) u v).bind f) Q := h
theorem wpF {u v : PV} {f : PV → Res} (h : W (f v) Q) : W ((pickP (.bool false) u v).bind f) Q := h
theorem wnT {f : PV → Res} (h : W (f (.bool false)) Q) : W ((unP .not (.bool true)).bind f) Q := h
theorem wnF {f : PV → Res} (h : W (f (.bool true)) Q) : W ((unP .not (.bool false)).bind f) Q := h
theorem wpv {x : Option PV} {h : PHeap} {f : PV × PHeap → Res} (hx : W (x.bind fun v => f (v, h)) Q) : W ((pv h x).bind f) Q := by
  cases x <;> exact hx
theorem wsm {v : α} {f : α → Res} (h : W (f v) Q) : W ((some v).bind f) Q := h
theorem wrI {a : Int} {f : PV → Res} (h : W (f (.int k a)) Q) : W ((resV (.int k a)).bind f) Q := h
theorem wrB {a : Bool} {f : PV → Res} (h : W (f (.bool a)) Q) : W ((resV (.bool a)).bind f) Q := h
theorem wrP {i o : Nat} {f : PV → Res} (h : W (f (.ptr i o)) Q) : W ((resV (.ptr i o)).bind f) Q := h
theorem wx0 {a : PV} {l : List PV} {f : PV → Res} (h : W (f a) Q) : W ((extractP (.tup (a :: l)) 0).bind f) Q := h
theorem wx1 {a b : PV} {l : List PV} {f : PV → Res} (h : W (f b) Q) : W ((extractP (.tup (a :: b :: l)) 1).bind f) Q := h
theorem wx2 {a b c : PV} {l : List PV} {f : PV → Res} (h : W (f c) Q) : W ((extractP (.tup (a :: b :: c :: l)) 2).bind f) Q := h
theorem wx3 {a b c d : PV} {l : List PV} {f : PV → Res} (h : W (f d) Q) : W ((extractP (.tup (a :: b :: c :: d :: l)) 3).bind f) Q := h
theorem wx4 {a b c d e : PV} {l : List PV} {f : PV → Res} (h : W (f e) Q) : W ((extractP (.tup (a :: b :: c :: d :: e :: l)) 4).bind f) Q := h
theorem wck {b : Bool} {x : Res} (hb : b = true) (h : W x Q) : W (ckP b x) Q := by rw [hb]; exact h
theorem wptr {i o : Nat} {f : PV → Res} (h : W (f (.ptr i o)) Q) : W ((ptrP (.ptr i o)).bind f) Q := h

/-! ### comparisons -/
section
variable {a b : Int} {f : PV → Res}
theorem wlssT (h : a < b) (hf : W (f (.bool true)) Q) : W ((binP P .lss t (.int k a) (.int k b)).bind f) Q := wbd (by rw [bin_lss, decide_eq_true h]) hf
theorem wlssF (h : ¬ a < b) (hf : W (f (.bool false)) Q) : W ((binP P .lss t (.int k a) (.int k b)).bind f) Q := wbd (by rw [bin_lss, decide_eq_false h]) hf
theorem wleqT (h : a ≤ b) (hf : W (f (.bool true)) Q) : W ((binP P .leq t (.int k a) (.int k b)).bind f) Q := wbd (by rw [bin_leq, decide_eq_true h]) hf
theorem wleqF (h : ¬ a ≤ b) (hf : W (f (.bool false)) Q) : W ((binP P .leq t (.int k a) (.int k b)).bind f) Q := wbd (by rw [bin_leq, decide_eq_false h]) hf
theorem wgtrT (h : b < a) (hf : W (f (.bool true)) Q) : W ((binP P .gtr t (.int k a) (.int k b)).bind f) Q := wbd (by rw [bin_gtr, decide_eq_true h]) hf
theorem wgtrF (h : ¬ b < a) (hf : W (f (.bool false)) Q) : W ((binP P .gtr t (.int k a) (.int k b)).bind f) Q := wbd (by rw [bin_gtr, decide_eq_false h]) hf
theorem wgeqT (h : b ≤ a) (hf : W (f (.bool true)) Q) : W ((binP P .geq t (.int k a) (.int k b)).bind f) Q := wbd (by rw [bin_geq, decide_eq_true h]) hf
theorem wgeqF (h : ¬ b ≤ a) (hf : W (f (.bool false)) Q) : W ((binP P .geq t (.int k a) (.int k b)).bind f) Q := wbd (by rw [bin_geq, decide_eq_false h]) hf
theorem weqlT (h : a = b) (hf : W (f (.bool true)) Q) : W ((binP P .eql t (.int k a) (.int k b)).bind f) Q := wbd (by rw [bin_eql, beq_iff_eq.2 h]) hf
theorem weqlF (h : ¬ a = b) (hf : W (f (.bool false)) Q) : W ((binP P .eql t (.int k a) (.int k b)).bind f) Q := wbd (by rw [bin_eql, beq_eq_false_iff_ne.2 h]) hf
theorem wneqT (h : ¬ a = b) (hf : W (f (.bool true)) Q) : W ((binP P .neq t (.int k a) (.int k b)).bind f) Q := wbd (by rw [bin_neq, bne, beq_eq_false_iff_ne.2 h]; rfl) hf
theorem wneqF (h : a = b) (hf : W (f (.bool false)) Q) : W ((binP P .neq t (.int k a) (.int k b)).bind f) Q := wbd (by rw [bin_neq, bne, beq_iff_eq.2 h]; rfl) hf
theorem wgtr (h1 : b < a → W (f (.bool true)) Q) (h2 : ¬ b < a → W (f (.bool false)) Q) : W ((binP P .gtr t (.int k a) (.int k b)).bind f) Q := by
  by_cases e : b < a
  · exact wgtrT e (h1 e)
  · exact wgtrF e (h2 e)
theorem weql (h1 : a = b → W (f (.bool true)) Q) (h2 : ¬ a = b → W (f (.bool false)) Q) : W ((binP P .eql t (.int k a) (.int k b)).bind f) Q := by
  by_cases e : a = b
  · exact weqlT e (h1 e)
  · exact weqlF e (h2 e)
theorem wneq (h1 : ¬ a = b → W (f (.bool true)) Q) (h2 : a = b → W (f (.bool false)) Q) : W ((binP P .neq t (.int k a) (.int k b)).bind f) Q := by
  by_cases e : a = b
  · exact wneqF e (h2 e)
  · exact wneqT e (h1 e)
end

/-! ### numbers -/
section
variable {a b : Int} {x y : Nat} {f : PV → Res}
theorem wadd (h : -4611686018427387904 ≤ a + b ∧ a + b ≤ 4611686018427387904) (hf : W (f (.int .i64 (a + b))) Q) : W ((binP P .add t (.int .i64 a) (.int .i64 b)).bind f) Q := wbd (by rw [bin_add, wr (by omega)]) hf
theorem wmul (h : -4611686018427387904 ≤ a * b ∧ a * b ≤ 4611686018427387904) (hf : W (f (.int .i64 (a * b))) Q) : W ((binP P .mul t (.int .i64 a) (.int .i64 b)).bind f) Q := wbd (by rw [bin_mul, wr (by omega)]) hf
theorem wadd1 (h : x < 4611686018427387904) (hf : W (f (.int .i64 ((x + 1 : Nat) : Int))) Q) : W ((binP P .add t (.int .i64 (x : Int)) (.int .i64 1)).bind f) Q := wbd (by rw [bin_add, wr (by omega)]; rfl) hf
theorem waddN (h : x + y < 4611686018427387904) (hf : W (f (.int .i64 ((x + y : Nat) : Int))) Q) : W ((binP P .add t (.int .i64 (x : Int)) (.int .i64 (y : Int))).bind f) Q := wbd (by rw [bin_add, wr (by omega)]; rfl) hf
theorem wsub1 (h : 1 ≤ x) (h2 : x < 4611686018427387904) (hf : W (f (.int .i64 ((x - 1 : Nat) : Int))) Q) : W ((binP P .sub t (.int .i64 (x : Int)) (.int .i64 1)).bind f) Q := wbd (by rw [bin_sub, wr (by omega), show (x : Int) - 1 = ((x - 1 : Nat) : Int) by omega]) hf
theorem wmulN (h : x * y < 4611686018427387904) (hf : W (f (.int .i64 ((x * y : Nat) : Int))) Q) : W ((binP P .mul t (.int .i64 (x : Int)) (.int .i64 (y : Int))).bind f) Q := wbd (by rw [bin_mul, ← Int.natCast_mul, wr (by omega)]) hf
end
end

section
variable {Q : PV → PHeap → Prop} {x y : Nat} {f : PV → Res}
theorem wquoN (h : 1 ≤ y) (h2 : x < 4611686018427387904) (hf : W (f (.int .i64 ((x / y : Nat) : Int))) Q) : W ((binP Tryd.prog .quo 3 (.int .i64 (x : Int)) (.int .i64 (y : Int))).bind f) Q :=
  wbd (by rw [bin_quo (by omega), ← Int.ofNat_tdiv, wr (by have := Nat.div_le_self x y; generalize x / y = z at this ⊢; omega)]) hf
theorem wremN (h : 1 ≤ y) (hf : W (f (.int .i64 ((x % y : Nat) : Int))) Q) : W ((binP Tryd.prog .rem 3 (.int .i64 (x : Int)) (.int .i64 (y : Int))).bind f) Q := wbd (f_rem x y h) hf
theorem wshl (h : y ≤ 30) (hf : W (f (.int .i64 ((1 <<< y : Nat) : Int))) Q) : W ((binP Tryd.prog .shl 3 (.int .i64 1) (.int .i64 (y : Int))).bind f) Q := wbd (f_shl y h) hf
theorem wand (hx : x < 2 ^ 62) (hy : y < 2 ^ 62) (hf : W (f (.int .i64 ((x &&& y : Nat) : Int))) Q) : W ((binP Tryd.prog .and 3 (.int .i64 (x : Int)) (.int .i64 (y : Int))).bind f) Q := wbd (f_and hx hy) hf
theorem wor (hx : x < 2 ^ 62) (hy : y < 2 ^ 62) (hf : W (f (.int .i64 ((x ||| y : Nat) : Int))) Q) : W ((binP Tryd.prog .or 3 (.int .i64 (x : Int)) (.int .i64 (y : Int))).bind f) Q := wbd (f_or hx hy) hf

/-- What is in x, and not in y. -/
def minusN (x y : Nat) : Nat := x ^^^ (x &&& y)
theorem minusN_bit (x y j : Nat) : (minusN x y).testBit j = (x.testBit j && !y.testBit j) := by
  unfold minusN; rw [Nat.testBit_xor, Nat.testBit_and]; cases x.testBit j <;> cases y.testBit j <;> rfl
theorem minusN_lt {x y n : Nat} (hx : x < 2 ^ n) : minusN x y < 2 ^ n := Nat.lt_of_le_of_lt (sub_le fun j hj => by rw [minusN_bit, Bool.and_eq_true] at hj; exact hj.1) hx
theorem minusN_one (x k : Nat) : minusN x (1 <<< k) = without x k := rfl

theorem f_andNot (hx : x < 2 ^ 62) (hy : y < 2 ^ 62) : binP Tryd.prog .andNot 3 (.int .i64 (x : Int)) (.int .i64 (y : Int)) = some (.int .i64 ((minusN x y : Nat) : Int)) := by
  have e1 : BitVec.ofInt 64 (x : Int) = BitVec.ofNat 64 x := by rw [BitVec.ofInt_natCast]
  have e2 : BitVec.ofInt 64 (y : Int) = BitVec.ofNat 64 y := by rw [BitVec.ofInt_natCast]
  have e3 : (BitVec.ofNat 64 x &&& ~~~(BitVec.ofNat 64 y)).toNat = minusN x y := by
    apply Nat.eq_of_testBit_eq
    intro j
    rw [minusN_bit, ← BitVec.getLsbD, BitVec.getLsbD_and, BitVec.getLsbD_not, BitVec.getLsbD_ofNat, BitVec.getLsbD_ofNat]
    by_cases hj : j < 64
    · simp [hj]
    · have : x.testBit j = false := Nat.testBit_lt_two_pow (Nat.lt_of_lt_of_le hx (Nat.pow_le_pow_right (by decide) (by omega)))
      simp [hj, this]
  show binI .andNot .i64 (x : Int) (y : Int) = _
  have hl : minusN x y < 2 ^ 62 := minusN_lt hx
  show some (PV.int .i64 (IntKind.i64.wrap ((BitVec.ofInt 64 (x : Int) &&& ~~~(BitVec.ofInt 64 (y : Int))).toNat))) = _
  rw [e1, e2, e3, wr (by omega)]
theorem wandNot (hx : x < 2 ^ 62) (hy : y < 2 ^ 62) (hf : W (f (.int .i64 ((minusN x y : Nat) : Int))) Q) : W ((binP Tryd.prog .andNot 3 (.int .i64 (x : Int)) (.int .i64 (y : Int))).bind f) Q := wbd (f_andNot hx hy) hf

/-! ### slices of integers -/
variable {h : PHeap} {p : PV} {xs : List Int}
theorem wlen (s : IntSl .i64 h p xs) (hf : W (f (.int .i64 (xs.length : Int))) Q) : W ((lenP Tryd.prog 23 p).bind f) Q := wbd s.len' hf
/-- An element is read. -/
theorem wat (s : IntSl .i64 h p xs) {i : Nat} (hi : i < xs.length) (hf : ∀ a, loadP Tryd.prog 3 a h = some (.int .i64 xs[i]) → W (f a) Q) : W ((indexAddrP Tryd.prog 23 p (.int .i64 (i : Int))).bind f) Q := by
  obtain ⟨a, e, l⟩ := s.at' hi; exact wbd e (hf a l)
theorem wresO {n : Nat} (s : OwnSl n h p xs) (hf : W (f p) Q) : W ((resV p).bind f) Q := wbd s.res hf
/-- An element is written. -/
theorem wst {n i : Nat} (s : OwnSl n h p xs) (hi : i < xs.length) {x : Int} {F : PV → PHeap → Res}
    (hf : ∀ h', OwnSl n h' p (xs.set i x) → Keep n h h' → h'.length = h.length → ∀ a, storeP Tryd.prog 3 a (.int .i64 x) h = some h' → W (F a h') Q) :
    W ((indexAddrP Tryd.prog 23 p (.int .i64 (i : Int))).bind fun a => (storeP Tryd.prog 3 a (.int .i64 x) h).bind fun h' => F a h') Q := by
  obtain ⟨a, h', e1, e2, o, k, l⟩ := s.store hi x
  refine wbd e1 ?_
  show W ((storeP Tryd.prog 3 a (.int .i64 x) h).bind fun h' => F a h') Q
  exact wbd e2 (hf h' o k l a e2)
end

/-! ### loops -/
theorem loopW {f : St → (PX → St → Res) → Res} {k : PX → St → Res} {Q : PV → PHeap → Prop} (I : Nat → St → Prop)
    (step : ∀ n m s, I m s → (∀ m' s', m' < m → I m' s' → W (kLoop f n k .normal s') Q) → W (f s (kLoop f n k)) Q) : ∀ (fuel m : Nat) (s : St), m < fuel → I m s → W (loopK f fuel s k) Q
  | 0, m, s, hm, _ => by omega
  | n + 1, m, s, hm, hI => by
    rw [loopK_succ]
    exact step n m s hI fun m' s' hm' hI' => by rw [kLoop_normal]; exact loopW I step n m' s' (by omega) hI'

/-- A list that whatever changes behind mark b leaves as it is. -/
def Fix (b : Nat) (h : PHeap) (p : PV) (xs : List Int) : Prop := ∀ h', Keep b h h' → IntSl .i64 h' p xs
theorem Fix.now {b : Nat} {h : PHeap} {p : PV} {xs : List Int} (s : Fix b h p xs) : IntSl .i64 h p xs := s h (Keep.refl _ _)
theorem Fix.keep {b : Nat} {h h' : PHeap} {p : PV} {xs : List Int} (s : Fix b h p xs) (k : Keep b h h') : Fix b h' p xs := fun h2 k2 => s h2 (k.trans k2)
theorem IntSl.fix {h : PHeap} {p : PV} {xs : List Int} (s : IntSl .i64 h p xs) : Fix h.length h p xs := fun _ k => s.keep k
theorem Fix.mono {b b' : Nat} {h : PHeap} {p : PV} {xs : List Int} (s : Fix b h p xs) (hb : b ≤ b') : Fix b' h p xs := fun h2 k2 => s h2 (k2.mono hb)

end Go.Proofs.YtmhflbomploidaaDoor

/- The laws of chapter 2 over what the program's functions are asked to compute: the draws, the exact laws, and promise 9. -/
set_option maxRecDepth 20000
namespace Go.Proofs.YtmhflbomploidaaDoor
open Go Go.Ip G

/-- What the program's functions may read besides: the table of steps, where there is one. -/
def TabOk (g : Nat → PV) (h : PHeap) : Prop := Tab g h ∧ Tab64 g h
theorem TabOk.keep {g : Nat → PV} {h h' : PHeap} (t : TabOk g h) (k : Keep h.length h h') : TabOk g h' := ⟨Tab.keep t.1 k, Tab64.keep t.2 k⟩

variable (g : Nat → PV) (lf n : Nat)

/-! ### the exact laws -/
/-! ### the draws -/
end Go.Proofs.YtmhflbomploidaaDoor

/- Promises 11, 12, 13 and 14 over what the program's functions are asked to compute. -/
set_option maxRecDepth 20000
namespace Go.Proofs.YtmhflbomploidaaDoor
open Go Go.Ip G

/-! ### more facts on positions -/
theorem pos_set {R C P : Nat} {xs : List Int} (hb : posB (R : Int) (C : Int) xs = true) (hP : P = 1 ∨ P = 2) (k : Nat) : posB (R : Int) (C : Int) (xs.set k (P : Int)) = true := by
  unfold posB at hb ⊢
  rw [List.length_set]
  rw [Bool.and_eq_true] at hb ⊢
  refine ⟨hb.1, ?_⟩
  rw [List.all_eq_true]
  intro x hx
  rcases List.mem_or_eq_of_mem_set hx with hx | rfl
  · exact List.all_eq_true.1 hb.2 x hx
  · rcases hP with rfl | rfl <;> rfl

variable (g : Nat → PV) (lf n : Nat)

/-! ### promise 12 -/
end Go.Proofs.YtmhflbomploidaaDoor

/- Promises 13 and 14 over what the program's functions are asked to compute. -/
set_option maxRecDepth 20000
namespace Go.Proofs.YtmhflbomploidaaDoor
open Go Go.Ip G

/-! ### the cells that close a gap -/
variable (g : Nat → PV) (lf n : Nat)

/-! ### gaps of free boards, and mirrored -/
end Go.Proofs.YtmhflbomploidaaDoor

/- Promises 10 and 15 over what the program's functions are asked to compute. -/
set_option maxRecDepth 20000
namespace Go.Proofs.YtmhflbomploidaaDoor
open Go Go.Ip G

/-! ### lists of sets -/
/-! ### masks -/
def maskOkB (R C : Nat) : Bool :=
  (masksN R C).all (fun m => decide (m < 2 ^ (R * C))) && ((List.range (R * C)).all fun k => (List.range (R * C)).all fun j =>
    (((masksN R C).getD k 0).testBit j == ((masksN R C).getD j 0).testBit k) && (((masksN R C).getD k 0).testBit j == decide ((j : Int) ∈ nearN R C k)))
theorem maskOk_all : (boards.all fun b => maskOkB b.1 b.2) = true := by kernel_rfl

theorem adj_in {R C k j : Nat} (hB : BoardOf R C) (h : Adj (masksN R C) k j) : k < R * C ∧ j < R * C := by
  unfold Adj at h
  have hk : k < (masksN R C).length := by
    rcases Nat.lt_or_ge k (masksN R C).length with hlt | hge
    · exact hlt
    · rw [List.getD_eq_getElem?_getD, List.getElem?_eq_none hge] at h
      simp at h
  have hm := List.all_eq_true.1 maskOk_all (R, C) (board_mem hB)
  unfold maskOkB at hm
  rw [Bool.and_eq_true] at hm
  rw [List.getD_eq_getElem?_getD, List.getElem?_eq_getElem hk] at h
  have := List.all_eq_true.1 hm.1 _ (List.getElem_mem hk)
  have := of_decide_eq_true this
  exact ⟨by rw [masksN_length] at hk; exact hk, bit_small this h⟩

/-! ### groups -/
variable (g : Nat → PV) (lf n : Nat)

theorem loadAt {xs : List Int} {p a : PV} {h : PHeap} {i : Nat} (hp : IntSl .i64 h p xs) (hi : i < xs.length) (ha : indexAddrP Tryd.prog 23 p (.int .i64 (i : Int)) = some a) : loadP Tryd.prog 3 a h = some (.int .i64 xs[i]) := by
  obtain ⟨a', ha', hla⟩ := hp.at' hi
  obtain rfl : a = a' := Option.some.inj (ha.symm.trans ha')
  exact hla

end Go.Proofs.YtmhflbomploidaaDoor

/- Promise 15 over what the program's functions are asked to compute. -/
set_option maxRecDepth 20000
namespace Go.Proofs.YtmhflbomploidaaDoor
open Go Go.Ip G

/-! ### sides -/
variable (g : Nat → PV) (lf n : Nat)

end Go.Proofs.YtmhflbomploidaaDoor

/- What chapter 3's functions tell of a position (moveL, playedL, winL, winCellsL, lineL), and what holds of them. No program text. -/
set_option maxRecDepth 20000
namespace Go.Proofs.YtmhflbomploidaaDoor
open Go Go.Ip G

def winL (r c : Int) (xs : List Int) (t : Int) : Int := if (posB r c xs && playerB t) = true then ((winN r.toNat c.toNat (setL xs 1) (setL xs 2) t.toNat : Nat) : Int) else 0
/-! ### none -/
theorem playerB_of {P : Nat} (hP : P = 1 ∨ P = 2) : playerB (P : Int) = true := by rcases hP with rfl | rfl <;> rfl
/-! ### sets -/
section
variable {R C : Nat} {xs : List Int} (hb : posB (R : Int) (C : Int) xs = true) (hS : Sides (R : Int) (C : Int) R C xs)
include hS
theorem pos_sets : Pos R C (setL xs 1) (setL xs 2) :=
  ⟨set_lt hS 1, set_lt hS 2, fun j h1 h2 => by
    rw [setL_bit] at h1 h2; rw [h1] at h2; exact absurd (Option.some.inj h2) (by decide)⟩
theorem free_bit {k : Nat} (hk : k < R * C) : (setL xs 1 ||| setL xs 2).testBit k = false ↔ xs[k]? = some 0 := by
  rw [Nat.testBit_or, Bool.or_eq_false_iff]
  have e1 : (setL xs 1).testBit k = false ↔ ¬ xs[k]? = some 1 := by rw [← setL_bit]; simp
  have e2 : (setL xs 2).testBit k = false ↔ ¬ xs[k]? = some 2 := by rw [← setL_bit]; simp
  rw [e1, e2]
  rcases content_cases hS hk with h | h | h <;> rw [h] <;> simp
omit hS
theorem set_putA {P k : Nat} (hP : P = 1 ∨ P = 2) (hk : xs[k]? = some 0) : setL (xs.set k (P : Int)) 1 = putA P k (setL xs 1) ∧ setL (xs.set k (P : Int)) 2 = putB P k (setL xs 2) := by
  have hkl : k < xs.length := (List.getElem?_eq_some_iff.1 hk).1
  rcases hP with rfl | rfl
  · refine ⟨Nat.eq_of_testBit_eq fun j => ?_, Nat.eq_of_testBit_eq fun j => ?_⟩
    · show _ = (setL xs 1 ||| (1 <<< k)).testBit j
      rw [with_bit, Bool.eq_iff_iff, Bool.or_eq_true, decide_eq_true_iff, setL_bit, setL_bit, List.getElem?_set]
      by_cases e : k = j
      · subst e; simp [hkl]
      · rw [if_neg e]; exact ⟨.inl, fun h => h.resolve_right fun h2 => e h2.symm⟩
    · show _ = (setL xs 2).testBit j
      rw [Bool.eq_iff_iff, setL_bit, setL_bit, List.getElem?_set]
      by_cases e : k = j
      · subst e; rw [hk]; simp [hkl]
      · rw [if_neg e]
  · refine ⟨Nat.eq_of_testBit_eq fun j => ?_, Nat.eq_of_testBit_eq fun j => ?_⟩
    · show _ = (setL xs 1).testBit j
      rw [Bool.eq_iff_iff, setL_bit, setL_bit, List.getElem?_set]
      by_cases e : k = j
      · subst e; rw [hk]; simp [hkl]
      · rw [if_neg e]
    · show _ = (setL xs 2 ||| (1 <<< k)).testBit j
      rw [with_bit, Bool.eq_iff_iff, Bool.or_eq_true, decide_eq_true_iff, setL_bit, setL_bit, List.getElem?_set]
      by_cases e : k = j
      · subst e; simp [hkl]
      · rw [if_neg e]; exact ⟨.inl, fun h => h.resolve_right fun h2 => e h2.symm⟩
include hb
theorem joins_one : joinsL (R : Int) (C : Int) xs 1 = joinsN R C 1 (setL xs 1) := joinsL_eq (P := 1) hb (.inl rfl)
theorem joins_two : joinsL (R : Int) (C : Int) xs 2 = joinsN R C 2 (setL xs 2) := joinsL_eq (P := 2) hb (.inr rfl)
theorem winL_eq {T : Nat} (hT : T = 1 ∨ T = 2) : winL (R : Int) (C : Int) xs (T : Int) = ((winN R C (setL xs 1) (setL xs 2) T : Nat) : Int) := by
  unfold winL; rw [hb, playerB_of hT]; rfl
theorem winL_set {P T k : Nat} (hP : P = 1 ∨ P = 2) (hT : T = 1 ∨ T = 2) (hk : xs[k]? = some 0) : winL (R : Int) (C : Int) (xs.set k (P : Int)) (T : Int) = ((winN R C (putA P k (setL xs 1)) (putB P k (setL xs 2)) T : Nat) : Int) := by
  rw [winL_eq (pos_set hb hP k) hT, (set_putA hP hk).1, (set_putA hP hk).2]
theorem winL_cases {T : Nat} (hT : T = 1 ∨ T = 2) : ∃ W : Nat, winL (R : Int) (C : Int) xs (T : Int) = (W : Int) ∧ (W = 1 ∨ W = 2) := ⟨_, winL_eq hb hT, win_cases hT⟩
include hS
theorem winL_done {P T : Nat} (hP : P = 1 ∨ P = 2) (hT : T = 1 ∨ T = 2) (hj : joinsL (R : Int) (C : Int) xs (P : Int) = true) : winL (R : Int) (C : Int) xs (T : Int) = (P : Int) := by
  rw [winL_eq hb hT]
  rcases hP with rfl | rfl
  · rw [win_first]; rw [← joins_one hb]; exact hj
  · rw [win_second (board_of_sides hS) (pos_sets hS)]; rw [← joins_two hb]; exact hj
theorem winL_open {T : Nat} (hT : T = 1 ∨ T = 2) (h1 : joinsL (R : Int) (C : Int) xs 1 = false) (h2 : joinsL (R : Int) (C : Int) xs 2 = false) : winL (R : Int) (C : Int) xs (T : Int) = (T : Int) ↔ ∃ k : Nat, xs[k]? = some 0 ∧ winL (R : Int) (C : Int) (xs.set k (T : Int)) (3 - (T : Int)) = (T : Int) := by
  have hlen : xs.length = R * C := hS.2.2.2.2.2.2.2.1
  have hT' : 3 - T = 1 ∨ 3 - T = 2 := by omega
  have e3 : (3 : Int) - (T : Int) = ((3 - T : Nat) : Int) := by omega
  rw [winL_eq hb hT, win_open (by rw [← joins_one hb]; exact h1) (by rw [← joins_two hb]; exact h2)]
  have : (((if moveB R C (setL xs 1) (setL xs 2) T = true then T else 3 - T : Nat) : Int) = (T : Int)) ↔ moveB R C (setL xs 1) (setL xs 2) T = true := by
    cases moveB R C (setL xs 1) (setL xs 2) T
    · simp only [Bool.false_eq_true, ↓reduceIte]; rcases hT with rfl | rfl <;> decide
    · simp only [↓reduceIte]
  rw [this, moveB_iff]
  constructor
  · rintro ⟨k, hk, hf, hw⟩
    have hk0 := (free_bit hS hk).1 hf
    exact ⟨k, hk0, by rw [e3, winL_set hb hT hT' hk0, hw]⟩
  · rintro ⟨k, hk0, hw⟩
    have hk : k < R * C := by rw [← hlen]; exact (List.getElem?_eq_some_iff.1 hk0).1
    rw [e3, winL_set hb hT hT' hk0] at hw
    exact ⟨k, hk, (free_bit hS hk).2 hk0, Int.ofNat_inj.1 hw⟩
end

/-! ### turned, mirrored -/
section
variable {R C : Nat} {xs : List Int} (hb : posB (R : Int) (C : Int) xs = true) (hS : Sides (R : Int) (C : Int) R C xs)
include hb hS
end

/-! ### moves -/
/-! ### winning cells -/
section
variable {R C : Nat} {xs : List Int} (hb : posB (R : Int) (C : Int) xs = true) (hS : Sides (R : Int) (C : Int) R C xs)
include hb hS
omit hb hS
include hb hS
end

/-! ### played on -/
section
variable {R C : Nat} {xs : List Int} (hb : posB (R : Int) (C : Int) xs = true) (hS : Sides (R : Int) (C : Int) R C xs)
include hb hS
end

end Go.Proofs.YtmhflbomploidaaDoor

/- The model's table of who wins: each position has a place of its own in it. No program text. -/
set_option maxRecDepth 20000
namespace Go.Proofs.YtmhflbomploidaaDoor
open Go Go.Ip G

/-- The place of a position, from its first k cells: the same number as the model reckons. -/
def keyF (a b : Nat) : Nat → Nat
  | 0 => 0
  | k + 1 => 3 * keyF a b k + (a >>> k % 2) + 2 * (b >>> k % 2)

theorem digit_le {R C a b : Nat} (h : Pos R C a b) (k : Nat) : a >>> k % 2 + 2 * (b >>> k % 2) ≤ 2 := by
  have h1 := bit_iff a k
  have h2 := bit_iff b k
  rcases Nat.mod_two_eq_zero_or_one (a >>> k) with e1 | e1 <;> rcases Nat.mod_two_eq_zero_or_one (b >>> k) with e2 | e2
  · omega
  · omega
  · omega
  · exact (h.2.2 k (h1.1 e1) (h2.1 e2)).elim
theorem key_lt {R C a b : Nat} (h : Pos R C a b) : ∀ k, keyF a b k < 3 ^ k
  | 0 => Nat.zero_lt_one
  | k + 1 => by
    have ih := key_lt h k
    have hd := digit_le h k
    rw [keyF, Nat.pow_succ]; omega
theorem key_inj {R C a b a' b' : Nat} (h : Pos R C a b) (h' : Pos R C a' b') : ∀ k, keyF a b k = keyF a' b' k → ∀ i, i < k → a.testBit i = a'.testBit i ∧ b.testBit i = b'.testBit i
  | 0, _, i, hi => by omega
  | k + 1, he, i, hi => by
    have hd := digit_le h k
    have hd' := digit_le h' k
    rw [keyF, keyF] at he
    have e1 : keyF a b k = keyF a' b' k := by omega
    have e2 : a >>> k % 2 = a' >>> k % 2 ∧ b >>> k % 2 = b' >>> k % 2 := by
      have := Nat.mod_two_eq_zero_or_one (a >>> k); have := Nat.mod_two_eq_zero_or_one (a' >>> k); omega
    by_cases hik : i = k
    · subst hik
      have t : ∀ x y : Nat, x >>> i % 2 = y >>> i % 2 → x.testBit i = y.testBit i := fun x y e => by
        rw [Bool.eq_iff_iff, ← bit_iff, ← bit_iff, e]
      exact ⟨t _ _ e2.1, t _ _ e2.2⟩
    · exact key_inj h h' k e1 i (by omega)
theorem key_pos {R C a b a' b' : Nat} (h : Pos R C a b) (h' : Pos R C a' b') (he : keyF a b (R * C) = keyF a' b' (R * C)) : a = a' ∧ b = b' := by
  have hk := key_inj h h' _ he
  have t : ∀ x y : Nat, x < 2 ^ (R * C) → y < 2 ^ (R * C) → (∀ i, i < R * C → x.testBit i = y.testBit i) → x = y := fun x y hx hy hxy => by
    apply Nat.eq_of_testBit_eq
    intro j
    by_cases hj : j < R * C
    · exact hxy j hj
    · have e1 : x.testBit j = false := Nat.testBit_lt_two_pow (Nat.lt_of_lt_of_le hx (Nat.pow_le_pow_right (by decide) (by omega)))
      have e2 : y.testBit j = false := Nat.testBit_lt_two_pow (Nat.lt_of_lt_of_le hy (Nat.pow_le_pow_right (by decide) (by omega)))
      rw [e1, e2]
  exact ⟨t _ _ h.1 h'.1 fun i hi => (hk i hi).1, t _ _ h.2.1 h'.2.1 fun i hi => (hk i hi).2⟩

def keyN (R C a b t : Nat) : Nat := 2 * keyF a b (R * C) + (t - 1)
/-- What the table holds: nothing, or who wins. -/
def Inv (R C : Nat) (T : List Int) : Prop := T.length = 2 * 3 ^ (R * C) ∧ ∀ a b t, Pos R C a b → (t = 1 ∨ t = 2) → T[keyN R C a b t]? = some 0 ∨ T[keyN R C a b t]? = some ((winN R C a b t : Nat) : Int)

theorem keyN_lt {R C a b t : Nat} (h : Pos R C a b) (ht : t = 1 ∨ t = 2) : keyN R C a b t < 2 * 3 ^ (R * C) := by
  have := key_lt h (R * C); unfold keyN; omega
theorem Inv.new (R C : Nat) : Inv R C (List.replicate (2 * 3 ^ (R * C)) 0) := by
  refine ⟨List.length_replicate, fun a b t h ht => .inl ?_⟩
  rw [List.getElem?_replicate, if_pos (keyN_lt h ht)]
theorem Inv.put {R C a b t : Nat} {T : List Int} (hi : Inv R C T) (h : Pos R C a b) (ht : t = 1 ∨ t = 2) : Inv R C (T.set (keyN R C a b t) ((winN R C a b t : Nat) : Int)) := by
  refine ⟨by rw [List.length_set]; exact hi.1, fun a' b' t' h' ht' => ?_⟩
  rw [List.getElem?_set]
  by_cases e : keyN R C a b t = keyN R C a' b' t'
  · right
    rw [if_pos e, if_pos (by rw [hi.1]; exact keyN_lt h ht)]
    unfold keyN at e
    have e1 : keyF a b (R * C) = keyF a' b' (R * C) := by omega
    have e2 : t = t' := by omega
    obtain ⟨rfl, rfl⟩ := key_pos h h' e1
    rw [e2]
  · rw [if_neg e]; exact hi.2 a' b' t' h' ht'
theorem Inv.get {R C a b t : Nat} {T : List Int} (hi : Inv R C T) (h : Pos R C a b) (ht : t = 1 ∨ t = 2) : ∃ hl : keyN R C a b t < T.length, T[keyN R C a b t] = 0 ∨ T[keyN R C a b t] = ((winN R C a b t : Nat) : Int) := by
  have hl : keyN R C a b t < T.length := by rw [hi.1]; exact keyN_lt h ht
  refine ⟨hl, ?_⟩
  have := hi.2 a b t h ht
  rw [List.getElem?_eq_getElem hl] at this
  exact this.imp Option.some.inj Option.some.inj

end Go.Proofs.YtmhflbomploidaaDoor

/- The model's chapter 3: what MoveOk, Played, WinnerOf, WinningCells and LinePlayed of it compute. -/
set_option maxRecDepth 20000
namespace Go.Proofs.YtmhflbomploidaaDoor
open Go Go.Ip G

variable (g : Nat → PV) (lf n : Nat)

/-! ### the solver -/
end Go.Proofs.YtmhflbomploidaaDoor

/- The model's chapter 3, on: the winning cells and the moves played on. -/
set_option maxRecDepth 20000
namespace Go.Proofs.YtmhflbomploidaaDoor
open Go Go.Ip G

/-! ### two lists at once: one between two marks, that is written to, and one apart from it, that grows -/
def Apart (b0 b1 b2 : Nat) (h : PHeap) (q : PV) (ys : List Int) : Prop := ∃ n m, OwnB n m h q ys ∧ b0 ≤ n ∧ (m ≤ b1 ∨ b2 ≤ n) ∧ m ≤ h.length
theorem Apart.keep {b0 b1 b2 : Nat} {h h' : PHeap} {q : PV} {ys : List Int} (s : Apart b0 b1 b2 h q ys) (k : Keep h.length h h') : Apart b0 b1 b2 h' q ys := by
  obtain ⟨n, m, o, h1, h2, h3⟩ := s
  exact ⟨n, m, o.keep (k.mono h3), h1, h2, Nat.le_trans h3 k.1⟩
theorem Apart.only {b0 b1 b2 : Nat} {h h' : PHeap} {q : PV} {ys : List Int} (s : Apart b0 b1 b2 h q ys) (k : Only b1 b2 h h') : Apart b0 b1 b2 h' q ys := by
  obtain ⟨n, m, o, h1, h2, h3⟩ := s
  exact ⟨n, m, o.only k (h2.imp id id), h1, h2, by rw [k.1]; exact h3⟩
theorem Apart.sl {b0 b1 b2 : Nat} {h : PHeap} {q : PV} {ys : List Int} (s : Apart b0 b1 b2 h q ys) : OwnSl b0 h q ys := by
  obtain ⟨n, m, o, h1, h2, h3⟩ := s
  exact o.sl.mono h1

theorem OwnB.append {n m : Nat} {h : PHeap} {p : PV} {xs : List Int} (s : OwnB n m h p xs) (hn : n ≤ h.length) (x : Int) (hl : xs.length + 1 ≤ 2 ^ 36) :
    ∃ v p' h', buildSliceP Tryd.prog 23 1 [(0, .int .i64 x)] h = some v ∧ appendP Tryd.prog 23 23 p v.1 v.2 = some (p', h') ∧ OwnSl h.length h' p' (xs ++ [x]) ∧ Keep n h h' ∧
      ∀ a b r zs, OwnB a b h r zs → (b ≤ n ∨ m ≤ a) → OwnB a b h' r zs := by
  have hb : buildSliceP Tryd.prog 23 1 [(0, .int .i64 x)] h = some (.sl h.length 0 1, h ++ [.own 1 [.int .i64 x]]) := by
    simp [buildSliceP, tyElem, tySize, tyZero, repeatCells, fillP, PV.cells, setCells]
  have hsrc : srcP (h ++ [.own 1 [.int .i64 x]]) 1 (.sl h.length 0 1) = some (1, [.int .i64 x]) := by
    simp [srcP, cellsAt, PObj.get]
  rcases s with ⟨rfl, rfl⟩ | ⟨id, h1, h2, rfl, h3⟩
  · refine ⟨_, .sl (h.length + 1) 0 1, h ++ [.own 1 [.int .i64 x]] ++ [.own 1 [.int .i64 x]], hb, ?_, .inr ⟨h.length + 1, by omega, rfl, ?_⟩, ?_, ?_⟩
    · simp [appendP, tyElem, tySize, tySmall, hsrc]
    · rw [List.getElem?_append_right (by simp)]; simp
    · rw [List.append_assoc]; exact Keep.append _ _ _ hn
    · rintro a b r zs (⟨rfl, rfl⟩ | ⟨i, i1, i2, rfl, i3⟩) _
      · exact .inl ⟨rfl, rfl⟩
      · refine .inr ⟨i, i1, i2, rfl, ?_⟩
        have hi : i < h.length := (List.getElem?_eq_some_iff.1 i3).1
        rw [List.append_assoc, List.getElem?_append_left hi]; exact i3
  · have hid : id < h.length := (List.getElem?_eq_some_iff.1 h3).1
    have h3' : (h ++ [PObj.own 1 [.int .i64 x]])[id]? = some (.own 1 (xs.map (.int .i64))) := by rw [List.getElem?_append_left hid]; exact h3
    refine ⟨_, .sl (h.length + 1) 0 (xs.length + 1), ((h ++ [PObj.own 1 [.int .i64 x]]).set id .dead ++ [PObj.own 1 (xs.map (.int .i64) ++ [.int .i64 x])]), hb, ?_, .inr ⟨h.length + 1, by omega, by simp, ?_⟩, ?_, ?_⟩
    · simp [appendP, tyElem, tySize, tySmall, hsrc, h3', hl]
    · rw [List.getElem?_append_right (by simp)]; simp
    · exact ((Keep.append n h _ hn).trans (Keep.set n _ id .dead h1)).trans (Keep.append _ _ _ (by simp; omega))
    · rintro a b r zs (⟨rfl, rfl⟩ | ⟨i, i1, i2, rfl, i3⟩) hd
      · exact .inl ⟨rfl, rfl⟩
      · refine .inr ⟨i, i1, i2, rfl, ?_⟩
        have hi : i < h.length := (List.getElem?_eq_some_iff.1 i3).1
        rw [List.getElem?_append_left (by simp; omega), List.getElem?_set_ne (by omega), List.getElem?_append_left hi]; exact i3

section
variable {Q : PV → PHeap → Prop} {h : PHeap} {p r : PV} {xs zs : List Int} {b0 b1 b2 : Nat}
end

/-! ### winning cells -/
variable (g : Nat → PV) (lf n : Nat)

/-! ### played on -/
end Go.Proofs.YtmhflbomploidaaDoor

/- Chapter 3's laws over what the program's functions are asked to compute: the draws, and the exact laws. -/
set_option maxRecDepth 20000
namespace Go.Proofs.YtmhflbomploidaaDoor
open Go Go.Ip G

theorem W.yes {x : Res} (hx : W x fun v _ => v = .bool true) : ∃ h', x = some (.bool true, h') := by
  obtain ⟨_, h', e, rfl⟩ := hx; exact ⟨h', e⟩
section
variable {Q : PV → PHeap → Prop} {b : Bool} {f : PV → Res}
/-- A call, with the heap's mark kept. -/
theorem wcv {x : Res} {v : PV} {m : Nat} {h0 h : PHeap} (c : ∃ h', x = some (v, h') ∧ Keep h.length h h') (k : Keep m h0 h) (hm : m ≤ h0.length) {f : PV × PHeap → Res} (hf : ∀ h', Keep m h0 h' → W (f (v, h')) Q) : W (x.bind f) Q := by
  obtain ⟨h', e, k'⟩ := c
  exact wbd e (hf h' (k.trans (k'.mono (Nat.le_trans hm k.1))))
end
theorem Fix.re {m : Nat} {h h' : PHeap} {p : PV} {xs : List Int} (s : Fix m h p xs) (k : Keep m h h') (hm : m ≤ h.length) : Fix h'.length h' p xs := fun h2 k2 => s h2 (k.trans (k2.mono (Nat.le_trans hm k.1)))
theorem tabF {g : Nat → PV} {h h1 : PHeap} (t : TabOk g h) (k : Keep h.length h h1) : ∀ h2, Keep h1.length h1 h2 → TabOk g h2 := fun _ k2 => (t.keep k).keep k2

variable (g : Nat → PV) (lf n : Nat)

/-! ### the draws -/
theorem sided_W {h : PHeap} {id m : Nat} (N : Nat) (hN : 5 ≤ N) (k : Int) (hr : Rd h id m) (hm : m ≤ 700000) (hk : k ≤ 400000) (hk0 : 1 ≤ k) (hlf : 20 < lf) :
    ∃ (r c : Int) (q : PV) (xs : List Int) (pl : Int) (h' : PHeap), CL g lf N fn_spec_l20Sided [.ptr id 0, .int .i64 k] h = some (.tup [.int .i64 r, .int .i64 c, q, .int .i64 pl], h') ∧ Rd h' id (m + 32) ∧ Keep id h h' ∧ OwnSl (id + 1) h' q xs ∧ xs.length ≤ 10 ∧ 1 ≤ pl ∧ pl ≤ 4 := by
  obtain ⟨n, rfl⟩ : ∃ n, N = n + 1 := ⟨N - 1, by omega⟩
  rw [spec_l20Sided.call_eq]
  obtain ⟨r, c, q, xs, h1, e1, r1, k1, o1, hl, hrc⟩ := position_calls g lf n (by omega) k hr (by omega) hk hk0 hlf
  obtain ⟨v1, h2, e2, r2, o2, a1, a2, _⟩ := pick_calls g lf n (by omega) 2 r1 (by omega) (by omega)
  obtain ⟨v2, h3, e3, r3, o3, b1, b2, _⟩ := pick_calls g lf n (by omega) 60 r2 (by omega) (by omega)
  have a2' := a2 (by omega)
  have b2' := b2 (by omega)
  have hq := tdiv_range b1 (show (1 : Int) ≤ 59 by decide)
  have hq1 : v2.tdiv 59 ≤ 1 := by
    obtain ⟨V, rfl⟩ := Int.eq_ofNat_of_zero_le b1
    have : ((V : Int).tdiv 59) = ((V / 59 : Nat) : Int) := rfl
    rw [this]; omega
  have f1 : binP Tryd.prog .add 3 (.int .i64 1) (.int .i64 v1) = some (.int .i64 (1 + v1)) := by rw [bin_add, wr (by omega)]
  have f2 : binP Tryd.prog .quo 3 (.int .i64 v2) (.int .i64 59) = some (.int .i64 (v2.tdiv 59)) := by rw [bin_quo (by decide), wr (by omega)]
  have f3 : binP Tryd.prog .mul 3 (.int .i64 (v2.tdiv 59)) (.int .i64 2) = some (.int .i64 (v2.tdiv 59 * 2)) := by rw [bin_mul, wr (by omega)]
  have f4 : binP Tryd.prog .add 3 (.int .i64 (1 + v1)) (.int .i64 (v2.tdiv 59 * 2)) = some (.int .i64 (1 + v1 + v2.tdiv 59 * 2)) := by rw [bin_add, wr (by omega)]
  have ho := (o1.keepOnly o2 (by omega)).keepOnly o3 (by omega)
  refine ⟨r, c, q, xs, 1 + v1 + v2.tdiv 59 * 2, h3, ?_, r3.mono (by omega), (k1.trans o2.keep).trans o3.keep, ho, hl, by omega, by omega⟩
  unfold spec_l20Sided.main
  exact bd e1 (bd extract_tup (bd extract_tup (bd extract_tup (bd e2 (bd f1 (bd e3 (bd f2 (bd f3 (bd f4 (bd res_int (bd res_int (bd o1.res (bd res_int rfl)))))))))))))

end Go.Proofs.YtmhflbomploidaaDoor

/- The laws of chapter 3 over what the program's functions are asked to compute: promises 16, 17, 18 and 21. -/
set_option maxRecDepth 20000
namespace Go.Proofs.YtmhflbomploidaaDoor
open Go Go.Ip G

variable (g : Nat → PV) (lf n : Nat)

end Go.Proofs.YtmhflbomploidaaDoor

/- The laws of chapter 3 over what the program's functions are asked to compute: promises 18, 19, 20 and 22. -/
set_option maxRecDepth 20000
namespace Go.Proofs.YtmhflbomploidaaDoor
open Go Go.Ip G

theorem Fix.get {b : Nat} {h h' : PHeap} {p : PV} {xs : List Int} (s : Fix b h p xs) (k : Keep b h h') : IntSl .i64 h' p xs := s h' k
variable (g : Nat → PV) (lf n : Nat)

end Go.Proofs.YtmhflbomploidaaDoor

/- The boards that the model draws for chapters 4 and 5, and the draws. -/
set_option maxRecDepth 20000
namespace Go.Proofs.YtmhflbomploidaaDoor
open Go Go.Ip Go.RowKit G

variable (g : Nat → PV) (lf n : Nat)

theorem few2_W {h : PHeap} {id m : Nat} (N : Nat) (hN : 6 ≤ N) (k : Int) (hr : Rd h id m) (hm : m ≤ 600000) (hlf : 20 < lf) :
    W (CL g lf N fn_spec_l20Few [.ptr id 0, .int .i64 k] h) fun v h' => ∃ (r c : Int) (q : PV) (xs : List Int) (pl : Int), v = .tup [.int .i64 r, .int .i64 c, q, .int .i64 pl] ∧ Keep id h h' ∧ OwnSl (id + 1) h' q xs ∧ xs.length ≤ 10 ∧ 1 ≤ pl ∧ pl ≤ 4 ∧ Rd h' id (m + 50) ∧ (0 ≤ k → (xs.count 0 : Int) ≤ k) := by
  obtain ⟨n, rfl⟩ : ∃ n, N = n + 1 := ⟨N - 1, by omega⟩
  obtain ⟨r, c, q, xs, pl, h1, e1, r1, k1, o1, hl, hp1, hp2⟩ := sided_W g lf n (by omega) 14 hr (by omega) (by omega) (by omega) hlf
  rw [spec_l20Few.call_eq]
  unfold spec_l20Few.main
  simp only [env_C, env_lf, env_extract]
  repeat (first | with_reducible refine wx0 ?_ | with_reducible refine wx1 ?_ | with_reducible refine wx2 ?_ | with_reducible refine wx3 ?_ | with_reducible refine wbd (by assumption) ?_ | dsimp only)
  refine loopW (fun m' s => ∃ (i fr : Nat) (zs : List Int) (h2 : PHeap), s = spec_l20Few.st0 (.ptr id 0) (.int .i64 k) (.int .i64 r) (.int .i64 c) q (.int .i64 pl) (.int .i64 (fr : Int)) (.int .i64 (i : Int)) h2 ∧ i + m' = xs.length ∧ fr ≤ i ∧ zs.length = xs.length ∧ Rd h2 id (m + 32 + i) ∧ OwnSl (id + 1) h2 q zs ∧ Keep id h h2 ∧ (zs.take i).count 0 ≤ fr ∧ (0 ≤ k → ((zs.take i).count 0 : Int) ≤ k)) ?_ lf xs.length _ (by omega) ⟨0, 0, xs, h1, rfl, by omega, Nat.le_refl _, rfl, r1, o1, k1, by simp, fun hk => by simpa using hk⟩
  rintro n1 m1 s ⟨i, fr, zs, h2, rfl, him, hfr, hz, r2, o2, k2, hc1, hc2⟩ next
  rw [spec_l20Few.body0_eq]
  unfold spec_l20Few.body0
  simp only [env_C, env_load, env_store, env_bin, env_indexAddr, env_len]
  have hzl := wlen (Q := fun _ _ => True) o2.int (f := fun _ => some (.nilsl, [])) ⟨_, _, rfl, trivial⟩
  clear hzl
  have hlen := o2.int.len'
  rw [hz] at hlen
  cases m1 with
  | zero =>
    repeat (first | with_reducible refine wF ?_ | with_reducible refine wrI ?_ | with_reducible refine wbd (by assumption) ?_ | with_reducible refine wlssF (by omega) ?_ | with_reducible refine wresO (by assumption) ?_ | rw [kLoop_exit] | rw [spec_l20Few.after0_se0_0_1_8_9_10_11_12_13_24])
    refine W.ret ⟨r, c, q, zs, pl, rfl, k2, o2, by omega, hp1, hp2, r2.mono (by omega), fun hk => ?_⟩
    have := hc2 hk
    rw [List.take_of_length_le (by omega)] at this; exact this
  | succ m1 =>
    have hi : i < zs.length := by omega
    have htk : zs.take (i + 1) = zs.take i ++ [zs[i]] := by rw [List.take_add_one, List.getElem?_eq_getElem hi]; rfl
    repeat (first | with_reducible refine wT ?_ | with_reducible refine wbd (by assumption) ?_ | (with_reducible refine wat o2.int hi fun a hl => ?_) | with_reducible refine wlssT (by omega) ?_)
    refine weql (fun e => ?_) (fun e => ?_)
    · repeat (first | with_reducible refine wT ?_ | with_reducible refine wadd1 (by omega) ?_)
      refine wgtr (fun e2 => ?_) (fun e2 => ?_)
      · obtain ⟨v, h3, e3, r3, ok3, a1, a2, _⟩ := pick_calls g lf n (by omega) 2 r2 (by omega) (by omega)
        have a2' := a2 (by omega)
        have htset : ∀ w : Int, w ≠ 0 → ((zs.set i w).take (i + 1)).count 0 = (zs.take i).count 0 := fun w hw => by
          rw [List.take_add_one, List.getElem?_set_self hi, List.take_set_of_le (Nat.le_refl _), Option.toList_some, List.count_append, List.count_singleton]
          simp [hw]
        have o3 := o2.keepOnly ok3 (by omega)
        repeat (first | with_reducible refine wT ?_ | with_reducible refine wbd (by assumption) ?_ | (refine wst o3 hi fun h4 o4 k4 l4 a4 e4 => ?_) | with_reducible refine wadd1 (by omega) ?_)
        exact next _ _ (Nat.lt_succ_self m1) ⟨i + 1, fr + 1, _, h4, rfl, by omega, by omega, by rw [List.length_set]; exact hz, (r3.keep k4 (by omega)).mono (by omega), o4, (k2.trans ok3.keep).trans (k4.mono (by omega)), by rw [htset (IntKind.i64.wrap (1 + v)) (by rw [wr (by omega)]; omega)]; omega, fun hk => by rw [htset (IntKind.i64.wrap (1 + v)) (by rw [wr (by omega)]; omega)]; exact hc2 hk⟩
      · repeat (first | with_reducible refine wF ?_ | with_reducible refine wadd1 (by omega) ?_)
        exact next _ _ (Nat.lt_succ_self m1) ⟨i + 1, fr + 1, zs, h2, rfl, by omega, by omega, hz, r2.mono (by omega), o2, k2, by rw [htk, List.count_append, e]; simp; omega, fun hk => by rw [htk, List.count_append, e]; simp; omega⟩
    · repeat (first | with_reducible refine wF ?_ | with_reducible refine wadd1 (by omega) ?_)
      exact next _ _ (Nat.lt_succ_self m1) ⟨i + 1, fr, zs, h2, rfl, by omega, by omega, hz, r2.mono (by omega), o2, k2, by rw [htk, List.count_append, List.count_singleton]; simp [e]; exact hc1, fun hk => by rw [htk, List.count_append, List.count_singleton]; simp [e]; exact hc2 hk⟩


end Go.Proofs.YtmhflbomploidaaDoor

/- Stolen plans and pairs that answer: what chapter 4's functions tell, and what holds of it. No program text. -/
set_option maxRecDepth 20000
namespace Go.Proofs.YtmhflbomploidaaDoor
open Go Go.Ip G

/-! ### pairs -/
/-! ### pairs that are shared -/
/-! ### openings -/
end Go.Proofs.YtmhflbomploidaaDoor

/- Fillings: how many of them a player wins, which cells matter, and that stones on cells that do not matter change nothing. No program text. -/
set_option maxRecDepth 20000
namespace Go.Proofs.YtmhflbomploidaaDoor
open Go Go.Ip G

/-! ### counting over all fillings of some cells -/
/-! ### what a stone more is worth -/
/-! ### each filling is won by one -/
/-- A position whose free cells are those of a list. -/
structure Cover (R C a b : Nat) (l : List Nat) : Prop where
  pos : Pos R C a b
  nodup : l.Nodup
  free : ∀ j, j ∈ l ↔ j < R * C ∧ (a ||| b).testBit j = false
theorem Cover.put {R C a b c : Nat} {l : List Nat} (h : Cover R C a b (c :: l)) (t : Nat) : Cover R C (putA t c a) (putB t c b) l := by
  have hc := (h.free c).1 (List.mem_cons_self ..)
  have hnd := List.nodup_cons.1 h.nodup
  refine ⟨h.pos.put hc.1 hc.2, hnd.2, fun j => ?_⟩
  rw [put_bit, Bool.or_eq_false_iff, decide_eq_false_iff_not]
  constructor
  · intro hj
    have := (h.free j).1 (List.mem_cons_of_mem _ hj)
    exact ⟨this.1, this.2, fun e => hnd.1 (e ▸ hj)⟩
  · rintro ⟨h1, h2, h3⟩
    exact (List.mem_cons.1 ((h.free j).2 ⟨h1, h2⟩)).resolve_left h3
/-! ### the free cells of a set, as a list -/
/-! ### played to the last cell -/
end Go.Proofs.YtmhflbomploidaaDoor

/- What chapter 5's functions tell of a position (countL, pivotL, mattersL, deadL), and what holds of them. No program text. -/
set_option maxRecDepth 20000
namespace Go.Proofs.YtmhflbomploidaaDoor
open Go Go.Ip G

section
variable {R C : Nat} {xs : List Int} (hb : posB (R : Int) (C : Int) xs = true) (hS : Sides (R : Int) (C : Int) R C xs)
include hS
omit hS
include hb
include hS
/-! ### turned and mirrored -/
/-! ### dead cells -/
end

end Go.Proofs.YtmhflbomploidaaDoor

/- Carriers and threats: what holds of positions whose free cells outside a set are given to the other player. No program text. -/
set_option maxRecDepth 20000
namespace Go.Proofs.YtmhflbomploidaaDoor
open Go Go.Ip G

def givenAt (xs : List Int) (P : Int) (S j : Nat) : Int := if xs.getD j 0 = 0 ∧ S.testBit j = false then 3 - P else xs.getD j 0
def givenL (xs : List Int) (P : Int) (S : Nat) : List Int := (List.range xs.length).map (givenAt xs P S)
theorem givenL_length (xs : List Int) (P : Int) (S : Nat) : (givenL xs P S).length = xs.length := by simp [givenL]
theorem givenL_get {xs : List Int} {P : Int} {S j : Nat} (hj : j < xs.length) : (givenL xs P S)[j]? = some (givenAt xs P S j) := by
  unfold givenL; rw [List.getElem?_map, List.getElem?_range hj]; rfl
theorem get_of {xs : List Int} {j : Nat} (h : j < xs.length) : xs[j]? = some (xs.getD j 0) := by rw [List.getD_eq_getElem?_getD, List.getElem?_eq_getElem h]; rfl

/-- No worse for the player. -/
def NoWorse (P : Int) (xs ys : List Int) : Prop := (∀ j : Nat, xs[j]? = some P → ys[j]? = some P) ∧ (∀ j : Nat, ys[j]? = some (3 - P) → xs[j]? = some (3 - P))

section
variable {R C : Nat} {xs ys : List Int} (hb : posB (R : Int) (C : Int) xs = true) (hb' : posB (R : Int) (C : Int) ys = true)
include hb
theorem sides_pos : Sides (R : Int) (C : Int) R C xs := by
  obtain ⟨R', C', hS⟩ := sides_of hb
  have e1 : R' = R := by have := hS.1; omega
  have e2 : C' = C := by have := hS.2.1; omega
  rw [e1, e2] at hS; exact hS
include hb'
theorem winL_better {P T : Nat} (hP : P = 1 ∨ P = 2) (hT : T = 1 ∨ T = 2) (h : NoWorse (P : Int) xs ys) (hw : winL (R : Int) (C : Int) xs (T : Int) = (P : Int)) : winL (R : Int) (C : Int) ys (T : Int) = (P : Int) := by
  have hS := sides_pos hb
  have hS' := sides_pos hb'
  rw [winL_eq hb hT] at hw
  have hw' := Int.ofNat_inj.1 hw
  rw [winL_eq hb' hT]
  rcases hP with rfl | rfl
  · rw [win_mono (board_of_sides hS) (pos_sets hS) (pos_sets hS') ⟨fun j hj => setL_bit.2 (h.1 j (setL_bit.1 hj)), fun j hj => setL_bit.2 (h.2 j (setL_bit.1 hj))⟩ hT hw']
  · rw [win_mono2 (board_of_sides hS) (pos_sets hS') (pos_sets hS) ⟨fun j hj => setL_bit.2 (h.2 j (setL_bit.1 hj)), fun j hj => setL_bit.2 (h.1 j (setL_bit.1 hj))⟩ hT hw']
theorem joinsL_better {P : Nat} (hP : P = 1 ∨ P = 2) (h : ∀ j : Nat, xs[j]? = some (P : Int) → ys[j]? = some (P : Int)) (hj : joinsL (R : Int) (C : Int) xs (P : Int) = true) : joinsL (R : Int) (C : Int) ys (P : Int) = true := by
  have hS := sides_pos hb
  have hS' := sides_pos hb'
  rw [joinsL_eq hb hP] at hj
  rw [joinsL_eq hb' hP]
  exact joins_mono (set_lt9 hS _) (set_lt9 hS' _) (fun j hj => setL_bit.2 (h j (setL_bit.1 hj))) hj
end

theorem given_pos {r c : Int} {xs : List Int} {P : Nat} (hP : P = 1 ∨ P = 2) (S : Nat) (hb : posB r c xs = true) : posB r c (givenL xs (P : Int) S) = true := by
  unfold posB at hb ⊢
  rw [Bool.and_eq_true] at hb ⊢
  rw [givenL_length]
  refine ⟨hb.1, ?_⟩
  rw [List.all_eq_true]
  intro x hx
  unfold givenL at hx
  obtain ⟨j, hj, rfl⟩ := List.mem_map.1 hx
  unfold givenAt
  split
  · rcases hP with rfl | rfl <;> rfl
  · have hjl := List.mem_range.1 hj
    have : xs.getD j 0 ∈ xs := by
      rw [List.getD_eq_getElem?_getD, List.getElem?_eq_getElem hjl]; exact List.getElem_mem hjl
    exact List.all_eq_true.1 hb.2 _ this

section
variable {xs : List Int} {P : Nat} (hP : P = 1 ∨ P = 2)
include hP
theorem given_own {S j : Nat} : (givenL xs (P : Int) S)[j]? = some (P : Int) ↔ xs[j]? = some (P : Int) := by
  by_cases hj : j < xs.length
  · rw [givenL_get hj, get_of hj]
    unfold givenAt
    split
    · rename_i h
      rw [h.1]
      constructor
      · intro h2; have := Option.some.inj h2; omega
      · intro h2; have := Option.some.inj h2; omega
    · exact Iff.rfl
  · rw [List.getElem?_eq_none (by rw [givenL_length]; omega), List.getElem?_eq_none (by omega)]
theorem given_other {S j : Nat} : (givenL xs (P : Int) S)[j]? = some (3 - (P : Int)) ↔ xs[j]? = some (3 - (P : Int)) ∨ (xs[j]? = some 0 ∧ S.testBit j = false) := by
  by_cases hj : j < xs.length
  · rw [givenL_get hj, get_of hj]
    unfold givenAt
    split
    · rename_i h
      exact ⟨fun _ => .inr ⟨by rw [h.1], h.2⟩, fun _ => rfl⟩
    · rename_i h
      constructor
      · exact .inl
      · rintro (h2 | ⟨h2, h3⟩)
        · exact h2
        · exact (h ⟨Option.some.inj h2, h3⟩).elim
  · rw [List.getElem?_eq_none (by rw [givenL_length]; omega), List.getElem?_eq_none (by omega)]; simp
theorem given_free {S j : Nat} : (givenL xs (P : Int) S)[j]? = some 0 ↔ xs[j]? = some 0 ∧ S.testBit j = true := by
  by_cases hj : j < xs.length
  · rw [givenL_get hj, get_of hj]
    unfold givenAt
    split
    · rename_i h
      constructor
      · intro h2; have := Option.some.inj h2; omega
      · rintro ⟨_, h3⟩; rw [h.2] at h3; cases h3
    · rename_i h
      constructor
      · intro h2
        refine ⟨h2, ?_⟩
        cases e : S.testBit j with
        | true => rfl
        | false => exact (h ⟨Option.some.inj h2, e⟩).elim
      · exact fun h2 => h2.1
  · rw [List.getElem?_eq_none (by rw [givenL_length]; omega), List.getElem?_eq_none (by omega)]; simp
/-- With more cells it is no worse. -/
theorem given_more {S S' : Nat} (h : ∀ j, xs[j]? = some 0 → S.testBit j = true → S'.testBit j = true) : NoWorse (P : Int) (givenL xs (P : Int) S) (givenL xs (P : Int) S') := by
  refine ⟨fun j hj => (given_own hP).2 ((given_own hP).1 hj), fun j hj => ?_⟩
  rcases (given_other hP).1 hj with h1 | ⟨h1, h2⟩
  · exact (given_other hP).2 (.inl h1)
  · refine (given_other hP).2 (.inr ⟨h1, ?_⟩)
    cases e : S.testBit j with
    | false => rfl
    | true => rw [h j h1 e] at h2; cases h2
end
def okL (r c : Int) (xs : List Int) (P S : Int) : Bool := posB r c xs && playerB P && decide (0 ≤ S ∧ S < ((2 ^ xs.length : Nat) : Int))
def carrierL (r c : Int) (xs : List Int) (P S : Int) : Bool := okL r c xs P S && decide (winL r c (givenL xs P S.toNat) (3 - P) = P)
def threatL (r c : Int) (xs : List Int) (P S : Int) : Bool := okL r c xs P S && decide (winL r c (givenL xs P S.toNat) P = P)
theorem okL_iff {r c : Int} {xs : List Int} {P S : Nat} (hP : P = 1 ∨ P = 2) : okL r c xs (P : Int) (S : Int) = true ↔ posB r c xs = true ∧ S < 2 ^ xs.length := by
  unfold okL
  rw [playerB_of hP, Bool.and_true, Bool.and_eq_true, decide_eq_true_eq]
  exact ⟨fun h => ⟨h.1, by omega⟩, fun h => ⟨h.1, by omega⟩⟩

section
variable {R C P : Nat} {xs : List Int} (hb : posB (R : Int) (C : Int) xs = true) (hP : P = 1 ∨ P = 2)
include hb hP
theorem carrier_iff {S : Nat} (hS : S < 2 ^ xs.length) : carrierL (R : Int) (C : Int) xs (P : Int) (S : Int) = true ↔ winL (R : Int) (C : Int) (givenL xs (P : Int) S) ((3 - P : Nat) : Int) = (P : Int) := by
  unfold carrierL
  rw [(okL_iff hP).2 ⟨hb, hS⟩, Bool.true_and, decide_eq_true_eq, show (3 : Int) - (P : Int) = ((3 - P : Nat) : Int) by omega]
  exact Iff.rfl
theorem threat_iff {S : Nat} (hS : S < 2 ^ xs.length) : threatL (R : Int) (C : Int) xs (P : Int) (S : Int) = true ↔ winL (R : Int) (C : Int) (givenL xs (P : Int) S) (P : Int) = (P : Int) := by
  unfold threatL
  rw [(okL_iff hP).2 ⟨hb, hS⟩, Bool.true_and, decide_eq_true_eq]
  exact Iff.rfl
theorem carrier_more {S S' : Nat} (hS : S < 2 ^ xs.length) (hS' : S' < 2 ^ xs.length) (hm : ∀ j, xs[j]? = some 0 → S.testBit j = true → S'.testBit j = true) (h : carrierL (R : Int) (C : Int) xs (P : Int) (S : Int) = true) : carrierL (R : Int) (C : Int) xs (P : Int) (S' : Int) = true := by
  have hO : 3 - P = 1 ∨ 3 - P = 2 := by omega
  exact (carrier_iff hb hP hS').2 (winL_better (given_pos hP S hb) (given_pos hP S' hb) hP hO (given_more hP hm) ((carrier_iff hb hP hS).1 h))
theorem threat_more {S S' : Nat} (hS : S < 2 ^ xs.length) (hS' : S' < 2 ^ xs.length) (hm : ∀ j, xs[j]? = some 0 → S.testBit j = true → S'.testBit j = true) (h : threatL (R : Int) (C : Int) xs (P : Int) (S : Int) = true) : threatL (R : Int) (C : Int) xs (P : Int) (S' : Int) = true :=
  (threat_iff hb hP hS').2 (winL_better (given_pos hP S hb) (given_pos hP S' hb) hP hP (given_more hP hm) ((threat_iff hb hP hS).1 h))
/-- Two threats without a common free cell carry together. -/
theorem two_threats {A B U : Nat} (hA : A < 2 ^ xs.length) (hB : B < 2 ^ xs.length) (hU : U < 2 ^ xs.length) (hAB : ∀ j, xs[j]? = some 0 → A.testBit j = true → B.testBit j = true → False) (hUAB : ∀ j, xs[j]? = some 0 → (U.testBit j = true ↔ A.testBit j = true ∨ B.testBit j = true))
    (h1 : threatL (R : Int) (C : Int) xs (P : Int) (A : Int) = true) (h2 : threatL (R : Int) (C : Int) xs (P : Int) (B : Int) = true) : carrierL (R : Int) (C : Int) xs (P : Int) (U : Int) = true := by
  have hO : 3 - P = 1 ∨ 3 - P = 2 := by omega
  have e3 : ((3 - P : Nat) : Int) = 3 - (P : Int) := by omega
  have hg := given_pos hP U hb
  have hgA := given_pos hP A hb
  have hgS := sides_pos hg
  rw [carrier_iff hb hP hU]
  have t1 := (threat_iff hb hP hA).1 h1
  have hno : joinsL (R : Int) (C : Int) (givenL xs (P : Int) U) ((3 - P : Nat) : Int) = false := by
    cases e : joinsL (R : Int) (C : Int) (givenL xs (P : Int) U) ((3 - P : Nat) : Int) with
    | false => rfl
    | true =>
      have hj := joinsL_better hg hgA hO (fun j hj => by
        rw [e3] at hj ⊢
        exact (given_more hP (S := A) (S' := U) fun j hj0 hAj => (hUAB j hj0).2 (.inl hAj)).2 j hj) e
      have := winL_done hgA (sides_pos hgA) hO hP hj
      rw [t1] at this; omega
  cases e : joinsL (R : Int) (C : Int) (givenL xs (P : Int) U) (P : Int) with
  | true => exact winL_done hg hgS hP hO e
  | false =>
    have hj12 : joinsL (R : Int) (C : Int) (givenL xs (P : Int) U) 1 = false ∧ joinsL (R : Int) (C : Int) (givenL xs (P : Int) U) 2 = false := by
      rcases hP with rfl | rfl
      · exact ⟨e, hno⟩
      · exact ⟨hno, e⟩
    obtain ⟨V, hV, hV2⟩ := winL_cases hg hO
    by_cases hVP : V = P
    · rw [hV, hVP]
    · have hVO : V = 3 - P := by omega
      rw [hVO] at hV
      obtain ⟨k, hk, hw⟩ := (winL_open hg hgS hO hj12.1 hj12.2).1 hV
      rw [show (3 : Int) - ((3 - P : Nat) : Int) = (P : Int) by omega] at hw
      obtain ⟨hk0, hkU⟩ := (given_free hP).1 hk
      have key : ∀ D : Nat, D < 2 ^ xs.length → threatL (R : Int) (C : Int) xs (P : Int) (D : Int) = true → D.testBit k = false → (∀ j, xs[j]? = some 0 → D.testBit j = true → U.testBit j = true) → False := by
        intro D hD hDt hDk hDU
        have := winL_better (given_pos hP D hb) (pos_set hg hO k) hP hP ⟨fun j hj => ?_, fun j hj => ?_⟩ ((threat_iff hb hP hD).1 hDt)
        · rw [this] at hw; omega
        · have hj' := (given_own hP).1 hj
          rw [List.getElem?_set_ne (fun e => by subst e; rw [hk0] at hj'; have := Option.some.inj hj'; omega)]
          exact (given_own hP).2 hj'
        · rw [List.getElem?_set] at hj
          split at hj
          · rename_i e; subst e; exact (given_other hP).2 (.inr ⟨hk0, hDk⟩)
          · exact (given_more hP (S := D) (S' := U) hDU).2 j hj
      rcases (hUAB k hk0).1 hkU with hA' | hB'
      · refine (key B hB h2 ?_ fun j hj hj2 => (hUAB j hj).2 (.inr hj2)).elim
        cases e2 : B.testBit k with
        | false => rfl
        | true => exact (hAB k hk0 hA' e2).elim
      · refine (key A hA h1 ?_ fun j hj hj2 => (hUAB j hj).2 (.inl hj2)).elim
        cases e2 : A.testBit k with
        | false => rfl
        | true => exact (hAB k hk0 e2 hB').elim
end

end Go.Proofs.YtmhflbomploidaaDoor

/- The program's sets of cells: the cells with a stone, the sides, growing and gaps, walked through with the rules of XW. -/
set_option maxRecDepth 20000
namespace Go.Proofs.YtmhflbomploidaaDoor
open Go Go.Ip G

/-! ### sets, without program text -/
theorem bit_of_ne {w : Nat} (h : w ≠ 0) : ∃ j, w.testBit j = true := by
  apply Classical.byContradiction
  intro hh
  refine h (Nat.eq_of_testBit_eq fun j => ?_)
  rw [Nat.zero_testBit]
  cases e : w.testBit j with
  | false => rfl
  | true => exact (hh ⟨j, e⟩).elim

theorem orAll_or : ∀ (L : List Int) (w : Nat), orAll w L = w ||| orAll 0 L
  | [], w => by simp [orAll]
  | e :: l, w => by rw [orAll, orAll_or l, orAll, orAll_or l (0 ||| _), Nat.zero_or, Nat.or_assoc]

theorem wide_step {R C S : Nat} (hB : BoardOf R C) : ∀ (m i w : Nat), i + m = R * C → wideFrom R C S m i w = stepFrom (2 ^ 9 - 1) S i ((masksN R C).drop i) w
  | 0, i, w, h => by rw [List.drop_eq_nil_of_le (by rw [masksN_length]; omega)]; rfl
  | m + 1, i, w, h => by
    have hi : i < (masksN R C).length := by rw [masksN_length]; omega
    have hm : (masksN R C)[i] = orAll 0 (nearN R C i) := by simp [masksN]
    have hlt : (masksN R C)[i] < 2 ^ 9 := masksN_lt hB _ (List.getElem_mem hi)
    have ha : (masksN R C)[i] &&& (2 ^ 9 - 1) = (masksN R C)[i] := by rw [Nat.and_two_pow_sub_one_eq_mod, Nat.mod_eq_of_lt hlt]
    rw [wideFrom, List.drop_eq_getElem_cons hi, stepFrom, Nat.and_one_is_mod, wide_step hB m (i + 1) _ (by omega), ha, hm]
    congr 1
    by_cases e : S >>> i % 2 = 1
    · rw [if_pos e, if_neg (by omega), orAll_or]
    · rw [if_neg e, if_pos (by omega)]

theorem wide_bit {R C S : Nat} (hB : BoardOf R C) (j : Nat) : (wideN R C S).testBit j = true ↔ S.testBit j = true ∨ ∃ k, S.testBit k = true ∧ Adj (masksN R C) k j := by
  unfold wideN
  rw [wide_step hB _ 0 S (by omega), List.drop_zero, stepFrom_bit]
  refine or_congr_right ⟨fun ⟨i, h1, h2, _⟩ => ⟨i, by simpa using h1, h2⟩, fun ⟨i, h1, h2⟩ => ⟨i, by simpa using h1, h2, ?_⟩⟩
  have := (adj_in hB h2).2
  have h9 := hB.2.2.2.2
  rw [Nat.testBit_two_pow_sub_one]; simp; omega

theorem wide_lt {R C S : Nat} (hB : BoardOf R C) (hS : S < 2 ^ 9) : wideN R C S < 2 ^ 9 := by
  obtain ⟨h1, h2, h3, h4, h9⟩ := hB; exact wideFrom_lt h1 h2 h3 h4 h9 _ _ _ (by omega) hS

theorem grown_is {M : List Nat} {S T X : Nat} (hS : S < 2 ^ 9) (hT : T < 2 ^ 9) (h0 : ∀ j, S.testBit j = true → X.testBit j = true) (hr : ∀ j, X.testBit j = true → Reach M (S ||| T) S j)
    (hc : ∀ k j, X.testBit k = true → Adj M k j → T.testBit j = true → X.testBit j = true) : X = growN M (S ||| T) S := by
  apply Nat.eq_of_testBit_eq
  intro j
  rw [Bool.eq_iff_iff, grow_bit (Nat.or_lt_two_pow hS hT)]
  refine ⟨hr j, fun h => ?_⟩
  induction h with
  | start h _ => exact h0 _ h
  | step _ ha hs ih =>
    rw [Nat.testBit_or, Bool.or_eq_true] at hs
    rcases hs with hs | hs
    · exact h0 _ hs
    · exact hc _ _ ih ha hs

theorem grown_in {M : List Nat} {own first : Nat} : growN M ((first &&& own) ||| own) (first &&& own) = growN M own first := by
  have : (first &&& own) ||| own = own := by
    apply Nat.eq_of_testBit_eq; intro j
    rw [Nat.testBit_or, Nat.testBit_and]; cases first.testBit j <;> cases own.testBit j <;> rfl
  rw [this]
  unfold growN
  rw [Nat.and_assoc, Nat.and_self]

variable (g : Nat → PV) (lf n : Nat)

/-! ### the program -/
theorem playerOk_W (N : Nat) (hN : 1 ≤ N) (h : PHeap) (p : Int) : CL g lf N fn_impl_playerOk [.int .i64 p] h = some (.bool (playerB p), h) := by
  obtain ⟨n, rfl⟩ : ∃ n, N = n + 1 := ⟨N - 1, by omega⟩
  have : W (CL g lf (n + 1) fn_impl_playerOk [.int .i64 p] h) fun v h' => v = .bool (playerB p) ∧ h' = h := by
    rw [impl_playerOk.call_eq]
    unfold impl_playerOk.main
    simp only [env_pick, env_bin]
    refine weql (fun e => ?_) (fun e => ?_)
    · repeat (first | with_reducible refine wg0 rfl ?_ | with_reducible refine wpT ?_ | with_reducible refine wsm ?_ | with_reducible refine wrB ?_ | dsimp only)
      exact W.ret ⟨by subst e; rfl, rfl⟩
    · repeat (first | with_reducible refine wg1 rfl ?_ | with_reducible refine wpv ?_ | with_reducible refine wsm ?_ | dsimp only)
      refine weql (fun e2 => ?_) (fun e2 => ?_)
      · repeat (first | with_reducible refine wpF ?_ | with_reducible refine wrB ?_)
        exact W.ret ⟨by subst e2; rfl, rfl⟩
      · repeat (first | with_reducible refine wpF ?_ | with_reducible refine wrB ?_)
        exact W.ret ⟨by rw [show playerB p = false by unfold playerB; exact decide_eq_false (by omega)], rfl⟩
  obtain ⟨_, _, e, rfl, rfl⟩ := this
  exact e

theorem setOf_W {xs : List Int} {p : PV} {h : PHeap} (what : Int) (hp : IntSl .i64 h p xs) (hl : xs.length ≤ 20) (N : Nat) (hN : 1 ≤ N) (hlf : 1000 < lf) :
    CL g lf N fn_impl_setOf [p, .int .i64 what] h = some (.int .i64 (setL xs what : Int), h) := by
  obtain ⟨n, rfl⟩ : ∃ n, N = n + 1 := ⟨N - 1, by omega⟩
  have : W (CL g lf (n + 1) fn_impl_setOf [p, .int .i64 what] h) fun v h' => v = .int .i64 (setL xs what : Int) ∧ h' = h := by
    rw [impl_setOf.call_eq]
    unfold impl_setOf.main
    simp only [env_lf, env_len]
    repeat (first | with_reducible refine wlen (by assumption) ?_)
    refine loopW (fun m s => ∃ i w : Nat, s = impl_setOf.st0 (.int .i64 what) (.int .i64 (w : Int)) p (.int .i64 (xs.length : Int)) (.int .i64 (i : Int)) h ∧ i + m = xs.length ∧ w < 2 ^ 30 ∧ setFrom what i (xs.drop i) w = setL xs what) ?_ lf xs.length _ (by omega) ⟨0, 0, rfl, by omega, by decide, rfl⟩
    rintro n1 m s ⟨i, w, rfl, him, hw, hset⟩ next
    rw [impl_setOf.body0_eq]
    unfold impl_setOf.body0
    simp only [env_load, env_bin, env_indexAddr]
    by_cases hi : i < xs.length
    · have hdx : xs.drop i = xs[i] :: xs.drop (i + 1) := List.drop_eq_getElem_cons hi
      have h30 : 1 <<< i < 2 ^ 30 := by rw [Nat.one_shiftLeft]; exact Nat.pow_lt_pow_right (by decide) (by omega)
      rw [hdx, setFrom] at hset
      repeat (first | with_reducible refine wT ?_ | with_reducible refine wbd (by assumption) ?_ | (with_reducible refine wat hp hi fun a hl => ?_) | with_reducible refine wlssT (by omega) ?_)
      refine weql (fun e => ?_) (fun e => ?_)
      · repeat (first | with_reducible refine wT ?_ | with_reducible refine wadd1 (by omega) ?_ | with_reducible refine wshl (by omega) ?_ | with_reducible refine wor (by omega) (by omega) ?_)
        rw [if_pos e] at hset
        exact next _ _ (show m - 1 < m by omega) ⟨i + 1, _, rfl, by omega, Nat.or_lt_two_pow hw h30, hset⟩
      · repeat (first | with_reducible refine wF ?_ | with_reducible refine wadd1 (by omega) ?_)
        rw [if_neg e] at hset
        exact next _ _ (show m - 1 < m by omega) ⟨i + 1, _, rfl, by omega, hw, hset⟩
    · rw [List.drop_eq_nil_of_le (by omega), setFrom] at hset
      repeat (first | with_reducible refine wF ?_ | with_reducible refine wrI ?_ | with_reducible refine wlssF (by omega) ?_ | rw [kLoop_exit] | rw [impl_setOf.after0_se0_1_5_8_9_10_11])
      exact W.ret ⟨by rw [hset], rfl⟩
  obtain ⟨_, _, e, rfl, rfl⟩ := this
  exact e

theorem sidesOf_W {R C P : Nat} (hB : BoardOf R C) (hP : P = 1 ∨ P = 2) (N : Nat) (hN : 1 ≤ N) (hlf : 1000 < lf) (h : PHeap) :
    CL g lf N fn_impl_sidesOf [.int .i64 (R : Int), .int .i64 (C : Int), .int .i64 (P : Int)] h = some (.tup [.int .i64 (sideN R C P false : Int), .int .i64 (sideN R C P true : Int)], h) := by
  obtain ⟨n, rfl⟩ : ∃ n, N = n + 1 := ⟨N - 1, by omega⟩
  have : W (CL g lf (n + 1) fn_impl_sidesOf [.int .i64 (R : Int), .int .i64 (C : Int), .int .i64 (P : Int)] h) fun v h' => v = .tup [.int .i64 (sideN R C P false : Int), .int .i64 (sideN R C P true : Int)] ∧ h' = h := by
    obtain ⟨h1, h2, h3, h4, h9⟩ := id hB
    rw [impl_sidesOf.call_eq]
    unfold impl_sidesOf.main
    simp only [env_lf, env_bin]
    repeat (first | with_reducible refine wmulN (by omega) ?_)
    refine loopW (fun m s => ∃ i w1 w2 : Nat, s = impl_sidesOf.st0 (.int .i64 (R : Int)) (.int .i64 (C : Int)) (.int .i64 (P : Int)) (.int .i64 (w1 : Int)) (.int .i64 (w2 : Int)) (.int .i64 ((R * C : Nat) : Int)) (.int .i64 (i : Int)) h ∧ i + m = R * C ∧ w1 < 2 ^ 9 ∧ w2 < 2 ^ 9 ∧ sideFrom R C P false m i w1 = sideN R C P false ∧ sideFrom R C P true m i w2 = sideN R C P true) ?_ lf (R * C) _ (by omega) ⟨0, 0, 0, rfl, by omega, by decide, by decide, rfl, rfl⟩
    rintro n1 m s ⟨i, w1, w2, rfl, him, hw1, hw2, hs1, hs2⟩ next
    rw [impl_sidesOf.body0_eq]
    unfold impl_sidesOf.body0
    simp only [env_bin]
    cases m with
    | zero =>
      rw [sideFrom] at hs1 hs2
      repeat (first | with_reducible refine wF ?_ | with_reducible refine wrI ?_ | with_reducible refine wlssF (by omega) ?_ | rw [kLoop_exit] | rw [impl_sidesOf.after0_se0_0_1_2_8_9_15_16_17])
      exact W.ret ⟨by rw [hs1, hs2], rfl⟩
    | succ m =>
      have hsl := shl_lt (show i < 9 by omega)
      rw [sideFrom] at hs1 hs2
      simp only [cond_true, cond_false, decide_eq_true_eq] at hs1 hs2
      obtain ⟨x, hx⟩ : ∃ x, x = atSide C P i := ⟨_, rfl⟩
      obtain ⟨y, hy⟩ : ∃ y, y = endSide R C P := ⟨_, rfl⟩
      rw [← hx] at hs1 hs2
      rw [← hy] at hs2
      have l1 := Nat.or_lt_two_pow hw1 hsl
      have l2 := Nat.or_lt_two_pow hw2 hsl
      rcases hP with rfl | rfl
      · have hx' : x = i / C := hx
        have hy' : y = R - 1 := hy
        by_cases a0 : x = 0 <;> by_cases a1 : x = y 
        all_goals
          first | rw [if_pos a0] at hs1 | rw [if_neg a0] at hs1
          first | rw [if_pos a1] at hs2 | rw [if_neg a1] at hs2
          repeat (first | with_reducible refine wT ?_ | with_reducible refine wF ?_ | (rw [← hx', ← hy']) | with_reducible refine wadd1 (by omega) ?_ | with_reducible refine wsub1 (by omega) (by omega) ?_ | with_reducible refine wquoN (by omega) (by omega) ?_ | with_reducible refine wshl (by omega) ?_ | with_reducible refine wor (by omega) (by omega) ?_ | with_reducible refine wlssT (by omega) ?_ | with_reducible refine weqlT (by omega) ?_ | with_reducible refine weqlF (by omega) ?_)
          first
            | exact next _ _ (Nat.lt_succ_self m) ⟨i + 1, _, _, rfl, by omega, l1, l2, hs1, hs2⟩
            | exact next _ _ (Nat.lt_succ_self m) ⟨i + 1, _, _, rfl, by omega, hw1, l2, hs1, hs2⟩
            | exact next _ _ (Nat.lt_succ_self m) ⟨i + 1, _, _, rfl, by omega, l1, hw2, hs1, hs2⟩
            | exact next _ _ (Nat.lt_succ_self m) ⟨i + 1, _, _, rfl, by omega, hw1, hw2, hs1, hs2⟩
      · have hx' : x = i % C := hx
        have hy' : y = C - 1 := hy
        by_cases a0 : x = 0 <;> by_cases a1 : x = y 
        all_goals
          first | rw [if_pos a0] at hs1 | rw [if_neg a0] at hs1
          first | rw [if_pos a1] at hs2 | rw [if_neg a1] at hs2
          repeat (first | with_reducible refine wT ?_ | with_reducible refine wF ?_ | (rw [← hx', ← hy']) | with_reducible refine wadd1 (by omega) ?_ | with_reducible refine wsub1 (by omega) (by omega) ?_ | with_reducible refine wquoN (by omega) (by omega) ?_ | with_reducible refine wremN (by omega) ?_ | with_reducible refine wshl (by omega) ?_ | with_reducible refine wor (by omega) (by omega) ?_ | with_reducible refine wlssT (by omega) ?_ | with_reducible refine weqlT (by omega) ?_ | with_reducible refine weqlF (by omega) ?_)
          first
            | exact next _ _ (Nat.lt_succ_self m) ⟨i + 1, _, _, rfl, by omega, l1, l2, hs1, hs2⟩
            | exact next _ _ (Nat.lt_succ_self m) ⟨i + 1, _, _, rfl, by omega, hw1, l2, hs1, hs2⟩
            | exact next _ _ (Nat.lt_succ_self m) ⟨i + 1, _, _, rfl, by omega, l1, hw2, hs1, hs2⟩
            | exact next _ _ (Nat.lt_succ_self m) ⟨i + 1, _, _, rfl, by omega, hw1, hw2, hs1, hs2⟩
  obtain ⟨_, _, e, rfl, rfl⟩ := this
  exact e

end Go.Proofs.YtmhflbomploidaaDoor

/- The model's chapters 4 and 5: what Openings, PairCell, PairFilled, MattersAt, DeadCells, FillCount and PivotCount of it compute. -/
set_option maxRecDepth 20000
namespace Go.Proofs.YtmhflbomploidaaDoor
open Go Go.Ip G

section
variable {Q : PV → PHeap → Prop} {x y : Nat} {f : PV → Res}
end

variable (g : Nat → PV) (lf n : Nat)

/-! ### pairs -/
/-! ### fillings -/
/-! ### what one cell decides -/
end Go.Proofs.YtmhflbomploidaaDoor

/- The laws of chapter 4 over what the program's functions are asked to compute. -/
set_option maxRecDepth 20000
namespace Go.Proofs.YtmhflbomploidaaDoor
open Go Go.Ip G

variable (g : Nat → PV) (lf n : Nat)

/-! ### the exact laws -/
end Go.Proofs.YtmhflbomploidaaDoor

/- The laws of chapter 5 over what the program's functions are asked to compute. -/
set_option maxRecDepth 20000
namespace Go.Proofs.YtmhflbomploidaaDoor
open Go Go.Ip G

section
variable {R C : Nat} {xs : List Int} (hb : posB (R : Int) (C : Int) xs = true)
include hb
end

variable (g : Nat → PV) (lf n : Nat)

/-! ### the exact laws -/
end Go.Proofs.YtmhflbomploidaaDoor

/- The draws of chapter 6. -/
set_option maxRecDepth 20000
namespace Go.Proofs.YtmhflbomploidaaDoor
open Go Go.Ip G

section
variable {Q : PV → PHeap → Prop} {x : Nat} {f : PV → Res}
theorem wquo59 (h2 : x < 4611686018427387904) (hf : W (f (.int .i64 ((x / 59 : Nat) : Int))) Q) : W ((binP Tryd.prog .quo 3 (.int .i64 (x : Int)) (.int .i64 59)).bind f) Q := wquoN (y := 59) (by decide) h2 hf
end

variable (g : Nat → PV) (lf n : Nat)

theorem carried_W {h : PHeap} {id m : Nat} (N : Nat) (hN : 7 ≤ N) (hr : Rd h id m) (hm : m ≤ 500000) (hlf : 20 < lf) :
    W (CL g lf N fn_spec_l20Carried [.ptr id 0] h) fun v h' => ∃ (r c : Int) (q : PV) (xs : List Int) (pl : Int) (S : Nat), v = .tup [.int .i64 r, .int .i64 c, q, .int .i64 pl, .int .i64 (S : Int)] ∧ Keep id h h' ∧ OwnSl (id + 1) h' q xs ∧ xs.length ≤ 10 ∧ 1 ≤ pl ∧ pl ≤ 4 ∧ S < 4096 := by
  obtain ⟨n, rfl⟩ : ∃ n, N = n + 1 := ⟨N - 1, by omega⟩
  rw [spec_l20Carried.call_eq]
  unfold spec_l20Carried.main
  simp only [env_C, env_bin, env_extract, env_len]
  refine wcall (few2_W g lf n (by omega) 6 hr (by omega) hlf) fun v h1 ⟨r, c, q, xs, pl, hv, k1, o1, hl, hp1, hp2, r1, _⟩ => ?_
  subst hv
  have hlen := o1.int.len'
  have hpow : 2 ^ xs.length ≤ 1024 := Nat.pow_le_pow_right (n := 2) (by decide) hl
  have hpow1 : 1 ≤ 2 ^ xs.length := Nat.one_le_two_pow
  have h1s : 1 <<< xs.length = 2 ^ xs.length := Nat.one_shiftLeft _
  obtain ⟨M, hM⟩ : ∃ M, M = 1 <<< xs.length := ⟨_, rfl⟩
  obtain ⟨v1, h2, e2, r2, ok2, a1, a2, _⟩ := pick_calls g lf n (by omega) (M : Int) r1 (by omega) (by omega)
  have a2' := a2 (by omega)
  obtain ⟨v2, h3, e3, r3, ok3, b1, b2, _⟩ := pick_calls g lf n (by omega) (M : Int) r2 (by omega) (by omega)
  have b2' := b2 (by omega)
  obtain ⟨v3, h4, e4, r4, ok4, c1, c2, _⟩ := pick_calls g lf n (by omega) 60 r3 (by omega) (by omega)
  have c2' := c2 (by omega)
  obtain ⟨V1, rfl⟩ := Int.eq_ofNat_of_zero_le a1
  obtain ⟨V2, rfl⟩ := Int.eq_ofNat_of_zero_le b1
  obtain ⟨V3, rfl⟩ := Int.eq_ofNat_of_zero_le c1
  have o4 := ((o1.keepOnly ok2 (by omega)).keepOnly ok3 (by omega)).keepOnly ok4 (by omega)
  have hor : V1 ||| V2 < 2 ^ 10 := Nat.or_lt_two_pow (by omega) (by omega)
  have hres : ((V1 ||| V2 : Nat) : Int) + ((V3 / 59 : Nat) : Int) * 1024 = (((V1 ||| V2) + V3 / 59 * 1024 : Nat) : Int) := by omega
  repeat (first | with_reducible refine wrI ?_ | with_reducible refine wx0 ?_ | with_reducible refine wx1 ?_ | with_reducible refine wx2 ?_ | with_reducible refine wx3 ?_ | with_reducible refine wbd (by assumption) ?_ | (rw [← hM]) | (with_reducible refine wquo59 (by omega) ?_) | (rw [hres]) | with_reducible refine wshl (by omega) ?_ | with_reducible refine wor (by omega) (by omega) ?_ | with_reducible refine wadd (by omega) ?_ | with_reducible refine wmul (by omega) ?_ | with_reducible refine wresO (by assumption) ?_ | dsimp only)
  exact W.ret ⟨r, c, q, xs, pl, (V1 ||| V2) + V3 / 59 * 1024, rfl, k1.trans (ok2.keep.trans (ok3.keep.trans ok4.keep)), o4, hl, hp1, hp2, by omega⟩

theorem drawCarrierOk_W {p : PV} {ys : List Int} {h : PHeap} (N : Nat) (hN : 9 ≤ N) (ha : Arg h p ys) (hlf : 20 < lf) :
    ∃ (r c : Int) (q : PV) (xs : List Int) (pl : Int) (S : Nat) (h' : PHeap), CL g lf N fn_spec_DrawCarrierOk [p] h = some (.tup [.int .i64 r, .int .i64 c, q, .int .i64 pl, .int .i64 (S : Int)], h') ∧ Keep h.length h h' ∧ IntSl .i64 h' q xs ∧ xs.length ≤ 10 ∧ 1 ≤ pl ∧ pl ≤ 4 ∧ S < 4096 := by
  obtain ⟨n, rfl⟩ : ∃ n, N = n + 1 := ⟨N - 1, by omega⟩
  have : W (CL g lf (n + 1) fn_spec_DrawCarrierOk [p] h) fun v h' => ∃ (r c : Int) (q : PV) (xs : List Int) (pl : Int) (S : Nat), v = .tup [.int .i64 r, .int .i64 c, q, .int .i64 pl, .int .i64 (S : Int)] ∧ Keep h.length h h' ∧ IntSl .i64 h' q xs ∧ xs.length ≤ 10 ∧ 1 ≤ pl ∧ pl ≤ 4 ∧ S < 4096 := by
    obtain ⟨h1, e1, r1, k1⟩ := open_calls g lf n (by omega) ha
    rw [spec_DrawCarrierOk.call_eq]
    unfold spec_DrawCarrierOk.main
    simp only [env_C, env_extract]
    repeat (first | with_reducible refine wbd (by assumption) ?_ | dsimp only)
    refine wcall (carried_W g lf n (by omega) r1 (by omega) hlf) fun v h2 ⟨r, c, q, xs, pl, S, hv, k2, o2, hl, hp1, hp2, hS⟩ => ?_
    subst hv
    repeat (first | with_reducible refine wrI ?_ | with_reducible refine wx0 ?_ | with_reducible refine wx1 ?_ | with_reducible refine wx2 ?_ | with_reducible refine wx3 ?_ | with_reducible refine wx4 ?_ | with_reducible refine wresO (by assumption) ?_ | dsimp only)
    exact W.ret ⟨r, c, q, xs, pl, S, rfl, k1.trans k2, o2.int, hl, hp1, hp2, hS⟩
  obtain ⟨v, h', e, r, c, q, xs, pl, S, rfl, rest⟩ := this
  exact ⟨r, c, q, xs, pl, S, h', e, rest⟩

theorem drawThreatOk_W {p : PV} {ys : List Int} {h : PHeap} (N : Nat) (hN : 9 ≤ N) (ha : Arg h p ys) (hlf : 20 < lf) :
    ∃ (r c : Int) (q : PV) (xs : List Int) (pl : Int) (S : Nat) (h' : PHeap), CL g lf N fn_spec_DrawThreatOk [p] h = some (.tup [.int .i64 r, .int .i64 c, q, .int .i64 pl, .int .i64 (S : Int)], h') ∧ Keep h.length h h' ∧ IntSl .i64 h' q xs ∧ xs.length ≤ 10 ∧ 1 ≤ pl ∧ pl ≤ 4 ∧ S < 4096 := by
  obtain ⟨n, rfl⟩ : ∃ n, N = n + 1 := ⟨N - 1, by omega⟩
  have : W (CL g lf (n + 1) fn_spec_DrawThreatOk [p] h) fun v h' => ∃ (r c : Int) (q : PV) (xs : List Int) (pl : Int) (S : Nat), v = .tup [.int .i64 r, .int .i64 c, q, .int .i64 pl, .int .i64 (S : Int)] ∧ Keep h.length h h' ∧ IntSl .i64 h' q xs ∧ xs.length ≤ 10 ∧ 1 ≤ pl ∧ pl ≤ 4 ∧ S < 4096 := by
    obtain ⟨h1, e1, r1, k1⟩ := open_calls g lf n (by omega) ha
    rw [spec_DrawThreatOk.call_eq]
    unfold spec_DrawThreatOk.main
    simp only [env_C, env_extract]
    repeat (first | with_reducible refine wbd (by assumption) ?_ | dsimp only)
    refine wcall (carried_W g lf n (by omega) r1 (by omega) hlf) fun v h2 ⟨r, c, q, xs, pl, S, hv, k2, o2, hl, hp1, hp2, hS⟩ => ?_
    subst hv
    repeat (first | with_reducible refine wrI ?_ | with_reducible refine wx0 ?_ | with_reducible refine wx1 ?_ | with_reducible refine wx2 ?_ | with_reducible refine wx3 ?_ | with_reducible refine wx4 ?_ | with_reducible refine wresO (by assumption) ?_ | dsimp only)
    exact W.ret ⟨r, c, q, xs, pl, S, rfl, k1.trans k2, o2.int, hl, hp1, hp2, hS⟩
  obtain ⟨v, h', e, r, c, q, xs, pl, S, rfl, rest⟩ := this
  exact ⟨r, c, q, xs, pl, S, h', e, rest⟩

end Go.Proofs.YtmhflbomploidaaDoor

/- Least sets of cells, cells that must be taken, and bridges. No program text. -/
set_option maxRecDepth 20000
namespace Go.Proofs.YtmhflbomploidaaDoor
open Go Go.Ip G

/-! ### every set of free cells is told by a number -/
/-! ### the least one -/
section
variable {R C P : Nat} {xs : List Int} (hb : posB (R : Int) (C : Int) xs = true) (hP : P = 1 ∨ P = 2)
include hb
include hP
end

/-! ### cells that must be taken -/
end Go.Proofs.YtmhflbomploidaaDoor

/- Bridges. No program text. -/
set_option maxRecDepth 20000
namespace Go.Proofs.YtmhflbomploidaaDoor
open Go Go.Ip G

/-! ### the count that the law makes -/
/-! ### the list that grows -/
end Go.Proofs.YtmhflbomploidaaDoor

/- The model's chapter 6: what CarrierOk, ThreatOk, LeastCarrier, LeastThreat, BridgesOf and MustCells of it compute. -/
set_option maxRecDepth 20000
namespace Go.Proofs.YtmhflbomploidaaDoor
open Go Go.Ip G

/-! ### lists, while they are written -/
variable (g : Nat → PV) (lf n : Nat)

/-! ### what is left to a player -/
/-! ### sets that may carry -/
/-! ### least sets -/
/-! ### bridges -/
/-! ### cells that must be taken -/
end Go.Proofs.YtmhflbomploidaaDoor

/- The laws of chapter 6 over what the program's functions are asked to compute. -/
set_option maxRecDepth 20000
namespace Go.Proofs.YtmhflbomploidaaDoor
open Go Go.Ip G

/-- What is asked of the program's functions of chapter 6. -/
def CarrierOkOk (g : Nat → PV) (lf : Nat) : Prop := ∀ (N : Nat), 40 ≤ N → ∀ (r c pl S : Int) {xs : List Int} {p : PV} {h : PHeap}, TabOk g h → IntSl .i64 h p xs → xs.length ≤ 2 ^ 35 → xs.length < lf →
  ∃ h', CL g lf N fn_impl_CarrierOk [.int .i64 r, .int .i64 c, p, .int .i64 pl, .int .i64 S] h = some (.bool (carrierL r c xs pl S), h') ∧ Keep h.length h h'
def ThreatOkOk (g : Nat → PV) (lf : Nat) : Prop := ∀ (N : Nat), 40 ≤ N → ∀ (r c pl S : Int) {xs : List Int} {p : PV} {h : PHeap}, TabOk g h → IntSl .i64 h p xs → xs.length ≤ 2 ^ 35 → xs.length < lf →
  ∃ h', CL g lf N fn_impl_ThreatOk [.int .i64 r, .int .i64 c, p, .int .i64 pl, .int .i64 S] h = some (.bool (threatL r c xs pl S), h') ∧ Keep h.length h h'
theorem carrierL_none {r c : Int} {xs : List Int} {pl S : Int} (h : posB r c xs = false ∨ 2 < pl) : carrierL r c xs pl S = false := by
  unfold carrierL okL
  rcases h with h | h
  · rw [h]; rfl
  · rw [show playerB pl = false by unfold playerB; exact decide_eq_false (by omega), Bool.and_false]; rfl
theorem carrierL_big {r c : Int} {xs : List Int} {pl : Int} {S : Nat} (h : ¬ S < 2 ^ xs.length) : carrierL r c xs pl (S : Int) = false := by
  unfold carrierL okL
  rw [decide_eq_false (by omega : ¬ ((0 : Int) ≤ (S : Int) ∧ (S : Int) < ((2 ^ xs.length : Nat) : Int))), Bool.and_false]; rfl
variable (g : Nat → PV) (lf n : Nat)

/-! ### the exact laws -/
end Go.Proofs.YtmhflbomploidaaDoor

/- The laws of chapter 6 over what the program's functions are asked to compute, continued. -/
set_option maxRecDepth 20000
namespace Go.Proofs.YtmhflbomploidaaDoor
open Go Go.Ip G

variable (g : Nat → PV) (lf n : Nat)

end Go.Proofs.YtmhflbomploidaaDoor

/- The laws of chapter 6 over what the program's functions are asked to compute, continued. -/
set_option maxRecDepth 20000
namespace Go.Proofs.YtmhflbomploidaaDoor
open Go Go.Ip G

variable (g : Nat → PV) (lf n : Nat)

end Go.Proofs.YtmhflbomploidaaDoor

/- The laws of chapter 6 that take two slices of bytes. -/
set_option maxRecDepth 20000
namespace Go.Proofs.YtmhflbomploidaaDoor
open Go Go.Ip G

theorem conv_u8 {b : Nat} (hb : b ≤ 255) : convP Tryd.prog 5 3 (.int .u8 (b : Int)) = some (.int .i64 (b : Int)) := by
  rw [conv_byte, wr (by omega)]
theorem low_bit (m j : Nat) : (1 <<< m - 1).testBit j = decide (j < m) := by rw [Nat.one_shiftLeft, Nat.testBit_two_pow_sub_one]
theorem low_lt (x m : Nat) : x &&& (1 <<< m - 1) < 2 ^ m := Nat.and_lt_two_pow _ (by rw [Nat.one_shiftLeft]; have := Nat.two_pow_pos m; omega)
/-- The first bytes of a second slice. -/
theorem byte_at {g' : Nat → PV} {h : PHeap} {p2 : PV} {zs : List Int} (s : IntSl .u8 h p2 zs) (hz : ∀ b ∈ zs, 0 ≤ b ∧ b ≤ 255) {i : Nat} (hi : i < zs.length) :
    ∃ (a : PV) (b : Nat), indexAddrP Tryd.prog 22 p2 (.int .i64 (i : Int)) = some a ∧ loadP Tryd.prog 5 a h = some (.int .u8 (b : Int)) ∧ b ≤ 255 := by
  obtain ⟨a, ea, la⟩ := s.at tyB tyBSize tyBAgg hi
  obtain ⟨h1, h2⟩ := hz zs[i] (List.getElem_mem hi)
  obtain ⟨b, hb⟩ := Int.eq_ofNat_of_zero_le h1
  exact ⟨a, b, ea, by rw [hb] at la; exact la, by omega⟩

variable (g : Nat → PV) (lf n : Nat)

set_option maxHeartbeats 2000000 in
theorem fnCarrierMore_calls (hCa : CarrierOkOk g lf) (hTh : ThreatOkOk g lf) {p p2 : PV} {ys zs : List Int} {h : PHeap} (N : Nat) (hN : 45 ≤ N) (ha : Arg h p ys) (hs2 : ∀ h', Keep h.length h h' → IntSl .u8 h' p2 zs) (hz : ∀ b ∈ zs, 0 ≤ b ∧ b ≤ 255) (hlf : 1000 < lf) (ht : TabOk g h) :
    ∃ h', CL g lf N fn_laws_FnCarrierMore [p, p2] h = some (.bool true, h') := by
  obtain ⟨n, rfl⟩ : ∃ n, N = n + 1 := ⟨N - 1, by omega⟩
  apply W.yes
  rw [laws_FnCarrierMore.call_eq]
  unfold laws_FnCarrierMore.main
  simp only [env_C, env_pick, env_load, env_bin, env_un, env_conv, env_indexAddr, env_extract, env_len]
  have hlenp : lenP Tryd.prog 22 p = some (.int .i64 ys.length) := (ha.1 h (Keep.refl _ _)).len tyB
  have hlenp2 : lenP Tryd.prog 22 p2 = some (.int .i64 zs.length) := (hs2 h (Keep.refl _ _)).len tyB
  by_cases hbig : (1048576 : Int) < (ys.length : Int)
  · repeat (first | with_reducible refine wT ?_ | with_reducible refine wg0 rfl ?_ | with_reducible refine wpT ?_ | with_reducible refine wsm ?_ | with_reducible refine wrB ?_ | with_reducible refine wbd (by assumption) ?_ | with_reducible refine wgtrT (by omega) ?_ | dsimp only)
    exact W.ret rfl
  by_cases hbig2 : (1048576 : Int) < (zs.length : Int)
  · repeat (first | with_reducible refine wT ?_ | with_reducible refine wg1 rfl ?_ | with_reducible refine wpF ?_ | with_reducible refine wpv ?_ | with_reducible refine wsm ?_ | with_reducible refine wrB ?_ | with_reducible refine wbd (by assumption) ?_ | with_reducible refine wgtrT (by omega) ?_ | with_reducible refine wgtrF (by omega) ?_ | dsimp only)
    exact W.ret rfl
  obtain ⟨r, c, q, xs, pl, S, h1, e1, k1, hq0, hl, hp1, hp2, hS4⟩ := drawCarrierOk_W g lf n (by omega) ha (by omega)
  have htF := tabF ht k1
  have hb1 : h1.length ≤ h1.length := Nat.le_refl _
  have k0 : Keep h1.length h1 h1 := Keep.refl _ _
  have hal : ∀ h2, CL g lf n fn_laws_alive [] h2 = some (.bool true, h2) := fun h2 => alive_calls g lf n (by omega) h2
  have hq : Fix h1.length h1 q xs := hq0.fix
  have hpos : ∀ h2, Keep h1.length h1 h2 → CL g lf n fn_spec_PositionOk [.int .i64 r, .int .i64 c, q] h2 = some (.bool (posB r c xs), h2) := fun h2 k2 => specPositionOk_N g lf n (by omega) r c (hq h2 k2) (by omega) (by omega)
  have hlq : ∀ h2, Keep h1.length h1 h2 → lenP Tryd.prog 23 q = some (.int .i64 xs.length) := fun h2 k2 => (hq _ k2).len'
  have hlq0 := hlq _ k0
  have hcn : carrierL r c xs pl (S : Int) = false → ∀ h2, Keep h1.length h1 h2 → ∃ h', CL g lf n fn_impl_CarrierOk [.int .i64 r, .int .i64 c, q, .int .i64 pl, .int .i64 (S : Int)] h2 = some (.bool false, h') ∧ Keep h2.length h2 h' := fun h0 h2 k2 => by
    rw [← h0]; exact hCa n (by omega) r c pl _ (htF _ k2) (hq _ k2) (by omega) (by omega)
  have hshl : xs.length ≤ 30 := by omega
  cases hb : posB r c xs with
  | false =>
    rw [hb] at hpos
    have hI := hcn (carrierL_none (.inl hb))
    repeat (first | with_reducible refine wT ?_ | with_reducible refine wF ?_ | with_reducible refine wg1 rfl ?_ | with_reducible refine wg0 rfl ?_ | with_reducible refine wpT ?_ | with_reducible refine wpF ?_ | with_reducible refine wnF ?_ | with_reducible refine wpv ?_ | with_reducible refine wsm ?_ | with_reducible refine wrB ?_ | with_reducible refine wx0 ?_ | with_reducible refine wx1 ?_ | with_reducible refine wx2 ?_ | with_reducible refine wx3 ?_ | with_reducible refine wx4 ?_ | with_reducible refine wbd (by assumption) ?_ | (with_reducible refine wbd (hpos _ (by assumption)) ?_) | (with_reducible refine wbd (hal _) ?_) | (with_reducible refine wcv (hI _ (by assumption)) (by assumption) hb1 fun _ _ => ?_) | with_reducible refine wgtrF (by omega) ?_ | dsimp only)
    exact W.ret rfl
  | true =>
  rw [hb] at hpos
  by_cases hpl : 2 < pl
  · have hI := hcn (carrierL_none (.inr hpl))
    repeat (first | with_reducible refine wT ?_ | with_reducible refine wF ?_ | with_reducible refine wg1 rfl ?_ | with_reducible refine wg0 rfl ?_ | with_reducible refine wpT ?_ | with_reducible refine wpF ?_ | with_reducible refine wnT ?_ | with_reducible refine wnF ?_ | with_reducible refine wpv ?_ | with_reducible refine wsm ?_ | with_reducible refine wrB ?_ | with_reducible refine wx0 ?_ | with_reducible refine wx1 ?_ | with_reducible refine wx2 ?_ | with_reducible refine wx3 ?_ | with_reducible refine wx4 ?_ | with_reducible refine wbd (by assumption) ?_ | (with_reducible refine wbd (hpos _ (by assumption)) ?_) | (with_reducible refine wbd (hal _) ?_) | (with_reducible refine wcv (hI _ (by assumption)) (by assumption) hb1 fun _ _ => ?_) | with_reducible refine wgtrT (by omega) ?_ | with_reducible refine wgtrF (by omega) ?_ | dsimp only)
    exact W.ret rfl
  obtain ⟨R, C, hS⟩ := sides_of hb
  obtain ⟨P, rfl⟩ := Int.eq_ofNat_of_zero_le (show 0 ≤ pl by omega)
  have hP : P = 1 ∨ P = 2 := by omega
  obtain ⟨rfl, rfl, s1, s2, s3, s4, s9, slen, sall⟩ := id hS
  have hpow : 2 ^ xs.length ≤ 512 := Nat.pow_le_pow_right (n := 2) (by decide) (by omega : xs.length ≤ 9)
  have hpow1 : 1 ≤ 2 ^ xs.length := Nat.one_le_two_pow
  have h1s : 1 <<< xs.length = 2 ^ xs.length := Nat.one_shiftLeft _
  obtain ⟨M, hM⟩ : ∃ M, M = 1 <<< xs.length := ⟨_, rfl⟩
  by_cases hbS : ¬ S < 2 ^ xs.length
  · have hI := hcn (carrierL_big hbS)
    have hge : (M : Int) ≤ (S : Int) := by omega
    repeat (first | with_reducible refine wT ?_ | with_reducible refine wF ?_ | with_reducible refine wg1 rfl ?_ | with_reducible refine wpT ?_ | with_reducible refine wpF ?_ | with_reducible refine wnT ?_ | with_reducible refine wnF ?_ | with_reducible refine wpv ?_ | with_reducible refine wsm ?_ | with_reducible refine wrB ?_ | with_reducible refine wx0 ?_ | with_reducible refine wx1 ?_ | with_reducible refine wx2 ?_ | with_reducible refine wx3 ?_ | with_reducible refine wx4 ?_ | with_reducible refine wbd (by assumption) ?_ | (with_reducible refine wbd (hpos _ (by assumption)) ?_) | (with_reducible refine wbd (hal _) ?_) | (with_reducible refine wcv (hI _ (by assumption)) (by assumption) hb1 fun _ _ => ?_) | (rw [← hM]) | with_reducible refine wshl (by omega) ?_ | with_reducible refine wgtrF (by omega) ?_ | with_reducible refine wgeqT (by omega) ?_ | dsimp only)
    exact W.ret rfl
  have hSl : S < 2 ^ xs.length := by omega
  have hnge : ¬ (M : Int) ≤ (S : Int) := by omega
  have hC : ∀ T : Nat, ∀ h2, Keep h1.length h1 h2 → ∃ h', CL g lf n fn_impl_CarrierOk [.int .i64 (R : Int), .int .i64 (C : Int), q, .int .i64 (P : Int), .int .i64 (T : Int)] h2 = some (.bool (carrierL (R : Int) (C : Int) xs (P : Int) (T : Int)), h') ∧ Keep h2.length h2 h' := fun T h2 k2 => hCa n (by omega) (R : Int) (C : Int) (P : Int) _ (htF _ k2) (hq _ k2) (by omega) (by omega)
  have hT : ∀ T : Nat, ∀ h2, Keep h1.length h1 h2 → ∃ h', CL g lf n fn_impl_ThreatOk [.int .i64 (R : Int), .int .i64 (C : Int), q, .int .i64 (P : Int), .int .i64 (T : Int)] h2 = some (.bool (threatL (R : Int) (C : Int) xs (P : Int) (T : Int)), h') ∧ Keep h2.length h2 h' := fun T h2 k2 => hTh n (by omega) (R : Int) (C : Int) (P : Int) _ (htF _ k2) (hq _ k2) (by omega) (by omega)
  have same : ∀ T : Nat, T < 2 ^ xs.length → (∀ j, xs[j]? = some 0 → S.testBit j = true → T.testBit j = true) → (!carrierL (R : Int) (C : Int) xs (P : Int) (S : Int) || carrierL (R : Int) (C : Int) xs (P : Int) (T : Int)) = true ∧ (!threatL (R : Int) (C : Int) xs (P : Int) (S : Int) || threatL (R : Int) (C : Int) xs (P : Int) (T : Int)) = true := fun T hTl hm => by
    refine ⟨?_, ?_⟩
    · cases e : carrierL (R : Int) (C : Int) xs (P : Int) (S : Int) with
      | false => rfl
      | true => rw [carrier_more hb hP hSl hTl hm e]; rfl
    · cases e : threatL (R : Int) (C : Int) xs (P : Int) (S : Int) with
      | false => rfl
      | true => rw [threat_more hb hP hSl hTl hm e]; rfl
  have hCS := hC S
  have hTS := hT S
  by_cases hz0 : 0 < zs.length
  · obtain ⟨a, b, ea, la, hb255⟩ := byte_at (g' := g) (hs2 h1 k1) hz hz0
    have ea : indexAddrP Tryd.prog 22 p2 (.int .i64 0) = some a := ea
    have hcv := conv_u8 hb255
    have hgt : (0 : Int) < (zs.length : Int) := by omega
    obtain ⟨W', hW'⟩ : ∃ W', W' = (S ||| b) &&& (1 <<< xs.length - 1) := ⟨_, rfl⟩
    have hWl : W' < 2 ^ xs.length := by rw [hW']; exact low_lt _ _
    have hWm : ∀ j, xs[j]? = some 0 → S.testBit j = true → W'.testBit j = true := fun j hj hs => by
      have := (List.getElem?_eq_some_iff.1 hj).1
      rw [hW', Nat.testBit_and, Nat.testBit_or, hs, low_bit]; simp [this]
    obtain ⟨q1, q2⟩ := same W' hWl hWm
    have hCW := hC W'
    have hTW := hT W'
    have hor : S ||| b < 2 ^ 62 := Nat.or_lt_two_pow (by omega) (by omega)
    have hM1 : 1 ≤ M := by omega
    have hM62 : M - 1 < 2 ^ 62 := by omega
    have hMx : M - 1 = 1 <<< xs.length - 1 := by rw [hM]
    obtain ⟨vC, hvC⟩ : ∃ v, v = carrierL (R : Int) (C : Int) xs (P : Int) (S : Int) := ⟨_, rfl⟩
    obtain ⟨vT, hvT⟩ : ∃ v, v = threatL (R : Int) (C : Int) xs (P : Int) (S : Int) := ⟨_, rfl⟩
    obtain ⟨uC, huC⟩ : ∃ v, v = carrierL (R : Int) (C : Int) xs (P : Int) (W' : Int) := ⟨_, rfl⟩
    obtain ⟨uT, huT⟩ : ∃ v, v = threatL (R : Int) (C : Int) xs (P : Int) (W' : Int) := ⟨_, rfl⟩
    rw [← hvC] at hCS
    rw [← hvT] at hTS
    rw [← huC] at hCW
    rw [← huT] at hTW
    rw [← hvC, ← huC] at q1
    rw [← hvT, ← huT] at q2
    rw [← hMx] at hW'
    cases vC with
    | false =>
      cases vT with
      | false =>
        repeat (first | with_reducible refine wT ?_ | with_reducible refine wF ?_ | with_reducible refine wg1 rfl ?_ | with_reducible refine wg0 rfl ?_ | with_reducible refine wpT ?_ | with_reducible refine wpF ?_ | with_reducible refine wnT ?_ | with_reducible refine wnF ?_ | with_reducible refine wpv ?_ | with_reducible refine wsm ?_ | with_reducible refine wrB ?_ | with_reducible refine wx0 ?_ | with_reducible refine wx1 ?_ | with_reducible refine wx2 ?_ | with_reducible refine wx3 ?_ | with_reducible refine wx4 ?_ | with_reducible refine wbd (by assumption) ?_ | (with_reducible refine wbd (hpos _ (by assumption)) ?_) | (with_reducible refine wbd (hal _) ?_) | (with_reducible refine wcv (hCS _ (by assumption)) (by assumption) hb1 fun _ _ => ?_) | (with_reducible refine wcv (hTS _ (by assumption)) (by assumption) hb1 fun _ _ => ?_) | (with_reducible refine wor (by omega) (by omega) ?_) | (with_reducible refine wsub1 hM1 (by omega) ?_) | (with_reducible refine wand hor hM62 ?_) | (rw [← hM]) | with_reducible refine wshl (by omega) ?_ | with_reducible refine wgtrT (by omega) ?_ | with_reducible refine wgtrF (by omega) ?_ | with_reducible refine wgeqF (by omega) ?_ | dsimp only)
        exact W.ret rfl
      | true =>
        have q2 : uT = true := q2
        rw [q2] at hTW
        repeat (first | with_reducible refine wT ?_ | with_reducible refine wF ?_ | with_reducible refine wg1 rfl ?_ | with_reducible refine wg0 rfl ?_ | with_reducible refine wpT ?_ | with_reducible refine wpF ?_ | with_reducible refine wnT ?_ | with_reducible refine wnF ?_ | with_reducible refine wpv ?_ | with_reducible refine wsm ?_ | with_reducible refine wrB ?_ | with_reducible refine wx0 ?_ | with_reducible refine wx1 ?_ | with_reducible refine wx2 ?_ | with_reducible refine wx3 ?_ | with_reducible refine wx4 ?_ | with_reducible refine wbd (by assumption) ?_ | (with_reducible refine wbd (hpos _ (by assumption)) ?_) | (with_reducible refine wbd (hal _) ?_) | (with_reducible refine wcv (hCS _ (by assumption)) (by assumption) hb1 fun _ _ => ?_) | (with_reducible refine wcv (hTS _ (by assumption)) (by assumption) hb1 fun _ _ => ?_) | (with_reducible refine wcv (hTW _ (by assumption)) (by assumption) hb1 fun _ _ => ?_) | (with_reducible refine wor (by omega) (by omega) ?_) | (with_reducible refine wsub1 hM1 (by omega) ?_) | (with_reducible refine wand hor hM62 ?_) | (rw [← hM]) | (rw [← hW']) | with_reducible refine wshl (by omega) ?_ | with_reducible refine wgtrT (by omega) ?_ | with_reducible refine wgtrF (by omega) ?_ | with_reducible refine wgeqF (by omega) ?_ | dsimp only)
        exact W.ret rfl
    | true =>
      have q1 : uC = true := q1
      rw [q1] at hCW
      cases vT with
      | false =>
        repeat (first | with_reducible refine wT ?_ | with_reducible refine wF ?_ | with_reducible refine wg1 rfl ?_ | with_reducible refine wg0 rfl ?_ | with_reducible refine wpT ?_ | with_reducible refine wpF ?_ | with_reducible refine wnT ?_ | with_reducible refine wnF ?_ | with_reducible refine wpv ?_ | with_reducible refine wsm ?_ | with_reducible refine wrB ?_ | with_reducible refine wx0 ?_ | with_reducible refine wx1 ?_ | with_reducible refine wx2 ?_ | with_reducible refine wx3 ?_ | with_reducible refine wx4 ?_ | with_reducible refine wbd (by assumption) ?_ | (with_reducible refine wbd (hpos _ (by assumption)) ?_) | (with_reducible refine wbd (hal _) ?_) | (with_reducible refine wcv (hCS _ (by assumption)) (by assumption) hb1 fun _ _ => ?_) | (with_reducible refine wcv (hTS _ (by assumption)) (by assumption) hb1 fun _ _ => ?_) | (with_reducible refine wcv (hCW _ (by assumption)) (by assumption) hb1 fun _ _ => ?_) | (with_reducible refine wor (by omega) (by omega) ?_) | (with_reducible refine wsub1 hM1 (by omega) ?_) | (with_reducible refine wand hor hM62 ?_) | (rw [← hM]) | (rw [← hW']) | with_reducible refine wshl (by omega) ?_ | with_reducible refine wgtrT (by omega) ?_ | with_reducible refine wgtrF (by omega) ?_ | with_reducible refine wgeqF (by omega) ?_ | dsimp only)
        exact W.ret rfl
      | true =>
        have q2 : uT = true := q2
        rw [q2] at hTW
        repeat (first | with_reducible refine wT ?_ | with_reducible refine wF ?_ | with_reducible refine wg1 rfl ?_ | with_reducible refine wpT ?_ | with_reducible refine wpF ?_ | with_reducible refine wnT ?_ | with_reducible refine wpv ?_ | with_reducible refine wsm ?_ | with_reducible refine wrB ?_ | with_reducible refine wx0 ?_ | with_reducible refine wx1 ?_ | with_reducible refine wx2 ?_ | with_reducible refine wx3 ?_ | with_reducible refine wx4 ?_ | with_reducible refine wbd (by assumption) ?_ | (with_reducible refine wbd (hpos _ (by assumption)) ?_) | (with_reducible refine wbd (hal _) ?_) | (with_reducible refine wcv (hCS _ (by assumption)) (by assumption) hb1 fun _ _ => ?_) | (with_reducible refine wcv (hTS _ (by assumption)) (by assumption) hb1 fun _ _ => ?_) | (with_reducible refine wcv (hCW _ (by assumption)) (by assumption) hb1 fun _ _ => ?_) | (with_reducible refine wcv (hTW _ (by assumption)) (by assumption) hb1 fun _ _ => ?_) | (with_reducible refine wor (by omega) (by omega) ?_) | (with_reducible refine wsub1 hM1 (by omega) ?_) | (with_reducible refine wand hor hM62 ?_) | (rw [← hM]) | (rw [← hW']) | with_reducible refine wshl (by omega) ?_ | with_reducible refine wgtrT (by omega) ?_ | with_reducible refine wgtrF (by omega) ?_ | with_reducible refine wgeqF (by omega) ?_ | dsimp only)
        exact W.ret rfl
  · have hgt : ¬ (0 : Int) < (zs.length : Int) := by omega
    obtain ⟨vC, hvC⟩ : ∃ v, v = carrierL (R : Int) (C : Int) xs (P : Int) (S : Int) := ⟨_, rfl⟩
    obtain ⟨vT, hvT⟩ : ∃ v, v = threatL (R : Int) (C : Int) xs (P : Int) (S : Int) := ⟨_, rfl⟩
    rw [← hvC] at hCS
    rw [← hvT] at hTS
    cases vC with
    | false =>
      cases vT with
      | false =>
        repeat (first | with_reducible refine wF ?_ | with_reducible refine wg1 rfl ?_ | with_reducible refine wg0 rfl ?_ | with_reducible refine wpT ?_ | with_reducible refine wpF ?_ | with_reducible refine wnT ?_ | with_reducible refine wnF ?_ | with_reducible refine wpv ?_ | with_reducible refine wsm ?_ | with_reducible refine wrB ?_ | with_reducible refine wx0 ?_ | with_reducible refine wx1 ?_ | with_reducible refine wx2 ?_ | with_reducible refine wx3 ?_ | with_reducible refine wx4 ?_ | with_reducible refine wbd (by assumption) ?_ | (with_reducible refine wbd (hpos _ (by assumption)) ?_) | (with_reducible refine wbd (hal _) ?_) | (with_reducible refine wcv (hCS _ (by assumption)) (by assumption) hb1 fun _ _ => ?_) | (with_reducible refine wcv (hTS _ (by assumption)) (by assumption) hb1 fun _ _ => ?_) | (rw [← hM]) | with_reducible refine wshl (by omega) ?_ | with_reducible refine wgtrF (by omega) ?_ | with_reducible refine wgeqF (by omega) ?_ | dsimp only)
        exact W.ret rfl
      | true =>
        repeat (first | with_reducible refine wF ?_ | with_reducible refine wg1 rfl ?_ | with_reducible refine wg0 rfl ?_ | with_reducible refine wpT ?_ | with_reducible refine wpF ?_ | with_reducible refine wnT ?_ | with_reducible refine wnF ?_ | with_reducible refine wpv ?_ | with_reducible refine wsm ?_ | with_reducible refine wrB ?_ | with_reducible refine wx0 ?_ | with_reducible refine wx1 ?_ | with_reducible refine wx2 ?_ | with_reducible refine wx3 ?_ | with_reducible refine wx4 ?_ | with_reducible refine wbd (by assumption) ?_ | (with_reducible refine wbd (hpos _ (by assumption)) ?_) | (with_reducible refine wbd (hal _) ?_) | (with_reducible refine wcv (hCS _ (by assumption)) (by assumption) hb1 fun _ _ => ?_) | (with_reducible refine wcv (hTS _ (by assumption)) (by assumption) hb1 fun _ _ => ?_) | (rw [← hM]) | with_reducible refine wshl (by omega) ?_ | with_reducible refine wgtrF (by omega) ?_ | with_reducible refine wgeqF (by omega) ?_ | dsimp only)
        exact W.ret rfl
    | true =>
      cases vT with
      | false =>
        repeat (first | with_reducible refine wF ?_ | with_reducible refine wg1 rfl ?_ | with_reducible refine wg0 rfl ?_ | with_reducible refine wpT ?_ | with_reducible refine wpF ?_ | with_reducible refine wnT ?_ | with_reducible refine wnF ?_ | with_reducible refine wpv ?_ | with_reducible refine wsm ?_ | with_reducible refine wrB ?_ | with_reducible refine wx0 ?_ | with_reducible refine wx1 ?_ | with_reducible refine wx2 ?_ | with_reducible refine wx3 ?_ | with_reducible refine wx4 ?_ | with_reducible refine wbd (by assumption) ?_ | (with_reducible refine wbd (hpos _ (by assumption)) ?_) | (with_reducible refine wbd (hal _) ?_) | (with_reducible refine wcv (hCS _ (by assumption)) (by assumption) hb1 fun _ _ => ?_) | (with_reducible refine wcv (hTS _ (by assumption)) (by assumption) hb1 fun _ _ => ?_) | (rw [← hM]) | with_reducible refine wshl (by omega) ?_ | with_reducible refine wgtrF (by omega) ?_ | with_reducible refine wgeqF (by omega) ?_ | dsimp only)
        exact W.ret rfl
      | true =>
        repeat (first | with_reducible refine wF ?_ | with_reducible refine wg1 rfl ?_ | with_reducible refine wpT ?_ | with_reducible refine wpF ?_ | with_reducible refine wnT ?_ | with_reducible refine wpv ?_ | with_reducible refine wsm ?_ | with_reducible refine wrB ?_ | with_reducible refine wx0 ?_ | with_reducible refine wx1 ?_ | with_reducible refine wx2 ?_ | with_reducible refine wx3 ?_ | with_reducible refine wx4 ?_ | with_reducible refine wbd (by assumption) ?_ | (with_reducible refine wbd (hpos _ (by assumption)) ?_) | (with_reducible refine wbd (hal _) ?_) | (with_reducible refine wcv (hCS _ (by assumption)) (by assumption) hb1 fun _ _ => ?_) | (with_reducible refine wcv (hTS _ (by assumption)) (by assumption) hb1 fun _ _ => ?_) | (rw [← hM]) | with_reducible refine wshl (by omega) ?_ | with_reducible refine wgtrF (by omega) ?_ | with_reducible refine wgeqF (by omega) ?_ | dsimp only)
        exact W.ret rfl

set_option maxHeartbeats 2000000 in
theorem fnTwoThreats_calls (hCa : CarrierOkOk g lf) (hTh : ThreatOkOk g lf) {p p2 : PV} {ys zs : List Int} {h : PHeap} (N : Nat) (hN : 45 ≤ N) (ha : Arg h p ys) (hs2 : ∀ h', Keep h.length h h' → IntSl .u8 h' p2 zs) (hz : ∀ b ∈ zs, 0 ≤ b ∧ b ≤ 255) (hlf : 1000 < lf) (ht : TabOk g h) :
    ∃ h', CL g lf N fn_laws_FnTwoThreats [p, p2] h = some (.bool true, h') := by
  obtain ⟨n, rfl⟩ : ∃ n, N = n + 1 := ⟨N - 1, by omega⟩
  apply W.yes
  rw [laws_FnTwoThreats.call_eq]
  unfold laws_FnTwoThreats.main
  simp only [env_C, env_lf, env_pick, env_load, env_bin, env_un, env_conv, env_indexAddr, env_extract, env_len]
  have hlenp : lenP Tryd.prog 22 p = some (.int .i64 ys.length) := (ha.1 h (Keep.refl _ _)).len tyB
  have hlenp2 : lenP Tryd.prog 22 p2 = some (.int .i64 zs.length) := (hs2 h (Keep.refl _ _)).len tyB
  by_cases hbig : (1048576 : Int) < (ys.length : Int)
  · repeat (first | with_reducible refine wT ?_ | with_reducible refine wg0 rfl ?_ | with_reducible refine wpT ?_ | with_reducible refine wsm ?_ | with_reducible refine wrB ?_ | with_reducible refine wbd (by assumption) ?_ | with_reducible refine wgtrT (by omega) ?_ | dsimp only)
    exact W.ret rfl
  by_cases hbig2 : (1048576 : Int) < (zs.length : Int)
  · repeat (first | with_reducible refine wT ?_ | with_reducible refine wg1 rfl ?_ | with_reducible refine wpF ?_ | with_reducible refine wpv ?_ | with_reducible refine wsm ?_ | with_reducible refine wrB ?_ | with_reducible refine wbd (by assumption) ?_ | with_reducible refine wgtrT (by omega) ?_ | with_reducible refine wgtrF (by omega) ?_ | dsimp only)
    exact W.ret rfl
  obtain ⟨r, c, q, xs, pl, S, h1, e1, k1, hq0, hl, hp1, hp2, hS4⟩ := drawThreatOk_W g lf n (by omega) ha (by omega)
  have htF := tabF ht k1
  have hb1 : h1.length ≤ h1.length := Nat.le_refl _
  have k0 : Keep h1.length h1 h1 := Keep.refl _ _
  have hal : ∀ h2, CL g lf n fn_laws_alive [] h2 = some (.bool true, h2) := fun h2 => alive_calls g lf n (by omega) h2
  have hq : Fix h1.length h1 q xs := hq0.fix
  have hpos : ∀ h2, Keep h1.length h1 h2 → CL g lf n fn_spec_PositionOk [.int .i64 r, .int .i64 c, q] h2 = some (.bool (posB r c xs), h2) := fun h2 k2 => specPositionOk_N g lf n (by omega) r c (hq h2 k2) (by omega) (by omega)
  have hlq : ∀ h2, Keep h1.length h1 h2 → lenP Tryd.prog 23 q = some (.int .i64 xs.length) := fun h2 k2 => (hq _ k2).len'
  have hlq0 := hlq _ k0
  have hshl : xs.length ≤ 30 := by omega
  cases hb : posB r c xs with
  | false =>
    rw [hb] at hpos
    repeat (first | with_reducible refine wT ?_ | with_reducible refine wF ?_ | with_reducible refine wg1 rfl ?_ | with_reducible refine wg0 rfl ?_ | with_reducible refine wpT ?_ | with_reducible refine wpF ?_ | with_reducible refine wnF ?_ | with_reducible refine wpv ?_ | with_reducible refine wsm ?_ | with_reducible refine wrB ?_ | with_reducible refine wx0 ?_ | with_reducible refine wx1 ?_ | with_reducible refine wx2 ?_ | with_reducible refine wx3 ?_ | with_reducible refine wx4 ?_ | with_reducible refine wbd (by assumption) ?_ | (with_reducible refine wbd (hpos _ (by assumption)) ?_) | (with_reducible refine wbd (hal _) ?_) | with_reducible refine wgtrF (by omega) ?_ | dsimp only)
    exact W.ret rfl
  | true =>
  rw [hb] at hpos
  by_cases hpl : 2 < pl
  · repeat (first | with_reducible refine wT ?_ | with_reducible refine wF ?_ | with_reducible refine wg1 rfl ?_ | with_reducible refine wg0 rfl ?_ | with_reducible refine wpT ?_ | with_reducible refine wpF ?_ | with_reducible refine wnT ?_ | with_reducible refine wpv ?_ | with_reducible refine wsm ?_ | with_reducible refine wrB ?_ | with_reducible refine wx0 ?_ | with_reducible refine wx1 ?_ | with_reducible refine wx2 ?_ | with_reducible refine wx3 ?_ | with_reducible refine wx4 ?_ | with_reducible refine wbd (by assumption) ?_ | (with_reducible refine wbd (hpos _ (by assumption)) ?_) | (with_reducible refine wbd (hal _) ?_) | with_reducible refine wgtrT (by omega) ?_ | with_reducible refine wgtrF (by omega) ?_ | dsimp only)
    exact W.ret rfl
  by_cases hz0 : ¬ 0 < zs.length
  · have hze : (zs.length : Int) = 0 := by omega
    repeat (first | with_reducible refine wT ?_ | with_reducible refine wF ?_ | with_reducible refine wg1 rfl ?_ | with_reducible refine wpF ?_ | with_reducible refine wnT ?_ | with_reducible refine wpv ?_ | with_reducible refine wsm ?_ | with_reducible refine wrB ?_ | with_reducible refine wx0 ?_ | with_reducible refine wx1 ?_ | with_reducible refine wx2 ?_ | with_reducible refine wx3 ?_ | with_reducible refine wx4 ?_ | with_reducible refine wbd (by assumption) ?_ | (with_reducible refine wbd (hpos _ (by assumption)) ?_) | (with_reducible refine wbd (hal _) ?_) | with_reducible refine wgtrF (by omega) ?_ | with_reducible refine weqlT (by omega) ?_ | dsimp only)
    exact W.ret rfl
  have hz0 : 0 < zs.length := by omega
  have hzne : ¬ (zs.length : Int) = 0 := by omega
  obtain ⟨R, C, hS⟩ := sides_of hb
  obtain ⟨P, rfl⟩ := Int.eq_ofNat_of_zero_le (show 0 ≤ pl by omega)
  have hP : P = 1 ∨ P = 2 := by omega
  obtain ⟨rfl, rfl, s1, s2, s3, s4, s9, slen, sall⟩ := id hS
  have hpow : 2 ^ xs.length ≤ 512 := Nat.pow_le_pow_right (n := 2) (by decide) (by omega : xs.length ≤ 9)
  have hpow1 : 1 ≤ 2 ^ xs.length := Nat.one_le_two_pow
  have h1s : 1 <<< xs.length = 2 ^ xs.length := Nat.one_shiftLeft _
  obtain ⟨M, hM⟩ : ∃ M, M = 1 <<< xs.length := ⟨_, rfl⟩
  have hC : ∀ T : Nat, ∀ h2, Keep h1.length h1 h2 → ∃ h', CL g lf n fn_impl_CarrierOk [.int .i64 (R : Int), .int .i64 (C : Int), q, .int .i64 (P : Int), .int .i64 (T : Int)] h2 = some (.bool (carrierL (R : Int) (C : Int) xs (P : Int) (T : Int)), h') ∧ Keep h2.length h2 h' := fun T h2 k2 => hCa n (by omega) (R : Int) (C : Int) (P : Int) _ (htF _ k2) (hq _ k2) (by omega) (by omega)
  have hT : ∀ T : Nat, ∀ h2, Keep h1.length h1 h2 → ∃ h', CL g lf n fn_impl_ThreatOk [.int .i64 (R : Int), .int .i64 (C : Int), q, .int .i64 (P : Int), .int .i64 (T : Int)] h2 = some (.bool (threatL (R : Int) (C : Int) xs (P : Int) (T : Int)), h') ∧ Keep h2.length h2 h' := fun T h2 k2 => hTh n (by omega) (R : Int) (C : Int) (P : Int) _ (htF _ k2) (hq _ k2) (by omega) (by omega)
  obtain ⟨a0, b0, ea0, la0, hb0⟩ := byte_at (g' := g) (hs2 h1 k1) hz hz0
  have ea0 : indexAddrP Tryd.prog 22 p2 (.int .i64 0) = some a0 := ea0
  have hcv0 := conv_u8 hb0
  have hM1 : 1 ≤ M := by omega
  have hM62 : M - 1 < 2 ^ 62 := by omega
  have hMx : M - 1 = 1 <<< xs.length - 1 := by rw [hM]
  obtain ⟨A, hA⟩ : ∃ A, A = S &&& (M - 1) := ⟨_, rfl⟩
  have hAl : A < 2 ^ xs.length := by rw [hA, hMx]; exact low_lt _ _
  have hS62 : S < 2 ^ 62 := by omega
  have hm2 : -4611686018427387904 ≤ (b0 : Int) * 2 ∧ (b0 : Int) * 2 ≤ 4611686018427387904 := by omega
  have hm3 : (b0 : Int) * 2 = ((b0 * 2 : Nat) : Int) := by omega
  obtain ⟨m2, hm4⟩ : ∃ m2, m2 = b0 * 2 := ⟨_, rfl⟩
  have hm62 : m2 < 2 ^ 62 := by omega
  rw [← hm4] at hm3
  obtain ⟨B1, hB1⟩ : ∃ B1, B1 = m2 &&& (M - 1) := ⟨_, rfl⟩
  have hB1l : B1 < 2 ^ xs.length := by rw [hB1, hMx]; exact low_lt _ _
  by_cases hz1 : 1 < zs.length
  · have hgt : (1 : Int) < (zs.length : Int) := by omega
    obtain ⟨a1, b1, ea1, la1, hb1'⟩ := byte_at (g' := g) (hs2 h1 k1) hz hz1
    have ea1 : indexAddrP Tryd.prog 22 p2 (.int .i64 1) = some a1 := ea1
    have hcv1 := conv_u8 hb1'
    obtain ⟨B2, hB2⟩ : ∃ B2, B2 = (B1 + b1) &&& (M - 1) := ⟨_, rfl⟩
    have hB0l : B2 < 2 ^ xs.length := by rw [hB2, hMx]; exact low_lt _ _
    have hs62 : B1 + b1 < 2 ^ 62 := by omega
    repeat (first | with_reducible refine wT ?_ | with_reducible refine wF ?_ | with_reducible refine wg1 rfl ?_ | with_reducible refine wpF ?_ | with_reducible refine wnT ?_ | with_reducible refine wpv ?_ | with_reducible refine wsm ?_ | with_reducible refine wx0 ?_ | with_reducible refine wx1 ?_ | with_reducible refine wx2 ?_ | with_reducible refine wx3 ?_ | with_reducible refine wx4 ?_ | with_reducible refine wbd (by assumption) ?_ | (with_reducible refine wbd (hpos _ (by assumption)) ?_) | (with_reducible refine wsub1 hM1 (by omega) ?_) | (with_reducible refine wand hS62 hM62 ?_) | (with_reducible refine wand hm62 hM62 ?_) | (with_reducible refine wand hs62 hM62 ?_) | (with_reducible refine wmul hm2 ?_) | (rw [← hM]) | (rw [← hA]) | (rw [hm3]) | (rw [← hB1]) | (rw [← hB2]) | with_reducible refine waddN (by omega) ?_ | with_reducible refine wshl (by omega) ?_ | with_reducible refine wgtrT (by omega) ?_ | with_reducible refine wgtrF (by omega) ?_ | with_reducible refine weqlF (by omega) ?_ | dsimp only)
    refine loopW (fun u s => ∃ (k F : Nat), s = laws_FnTwoThreats.st0 (.int .i64 (R : Int)) (.int .i64 (C : Int)) q (.int .i64 (P : Int)) (.int .i64 (A : Int)) (.int .i64 (B2 : Int)) (.int .i64 (F : Int)) (.int .i64 (k : Int)) h1 ∧ k + u = xs.length ∧ ∀ j, F.testBit j = true ↔ j < k ∧ xs[j]? = some 0) ?_ lf xs.length _ (by omega) ⟨0, 0, rfl, by omega, fun j => by rw [Nat.zero_testBit]; exact ⟨fun h => (by cases h), fun h => absurd h.1 (by omega)⟩⟩
    rintro n1 u s ⟨k, F, rfl, hku, hF⟩ next
    have hF9 : F < 2 ^ 9 := by
      apply Nat.lt_of_not_le
      intro h
      obtain ⟨i, hi, hbt⟩ := Nat.exists_ge_and_testBit_of_ge_two_pow h
      exact absurd ((hF i).1 hbt).1 (by omega)
    have hF62 : F < 2 ^ 62 := Nat.lt_of_lt_of_le hF9 (by decide)
    rw [laws_FnTwoThreats.body0_eq]
    unfold laws_FnTwoThreats.body0
    simp only [env_load, env_bin, env_indexAddr, env_len]
    cases u with
    | succ u =>
      have hk : k < xs.length := by omega
      obtain ⟨a, ea, la⟩ := (hq _ k0).at' hk
      by_cases hx : xs[k] = 0
      · have h1k : 1 <<< k < 2 ^ 62 := by rw [Nat.one_shiftLeft]; exact Nat.pow_lt_pow_right (by decide) (by omega)
        have hk30 : k ≤ 30 := by omega
        repeat (first | with_reducible refine wT ?_ | with_reducible refine wbd (by assumption) ?_ | (with_reducible refine weqlT hx ?_) | (with_reducible refine wshl hk30 ?_) | (with_reducible refine wor hF62 h1k ?_) | with_reducible refine wadd1 (by omega) ?_ | with_reducible refine wlssT (by omega) ?_)
        refine next _ _ (Nat.lt_succ_self u) ⟨k + 1, F ||| 1 <<< k, rfl, by omega, fun j => ?_⟩
        rw [with_bit, Bool.or_eq_true, hF, decide_eq_true_eq]
        constructor
        · rintro (⟨a1, a2⟩ | rfl)
          · exact ⟨by omega, a2⟩
          · exact ⟨by omega, by rw [List.getElem?_eq_getElem hk, hx]⟩
        · rintro ⟨a1, a2⟩
          by_cases e : j = k
          · exact .inr e
          · exact .inl ⟨by omega, a2⟩
      · repeat (first | with_reducible refine wT ?_ | with_reducible refine wF ?_ | with_reducible refine wbd (by assumption) ?_ | (with_reducible refine weqlF hx ?_) | with_reducible refine wadd1 (by omega) ?_ | with_reducible refine wlssT (by omega) ?_)
        refine next _ _ (Nat.lt_succ_self u) ⟨k + 1, F, rfl, by omega, fun j => ?_⟩
        rw [hF]
        constructor
        · rintro ⟨a1, a2⟩; exact ⟨by omega, a2⟩
        · rintro ⟨a1, a2⟩
          refine ⟨?_, a2⟩
          by_cases e : j = k
          · subst e; rw [List.getElem?_eq_getElem hk] at a2; exact (hx (Option.some.inj a2)).elim
          · omega
    | zero =>
      have hkx : k = xs.length := by omega
      subst hkx
      obtain ⟨B, hB⟩ : ∃ B, B = minusN B2 A := ⟨_, rfl⟩
      have hBl : B < 2 ^ xs.length := by rw [hB]; exact minusN_lt hB0l
      obtain ⟨U, hU⟩ : ∃ U, U = (A ||| B) &&& F := ⟨_, rfl⟩
      have hFl : F < 2 ^ xs.length := by
        apply Nat.lt_of_not_le
        intro h
        obtain ⟨i, hi, hbt⟩ := Nat.exists_ge_and_testBit_of_ge_two_pow h
        exact absurd ((hF i).1 hbt).1 (by omega)
      have hUl : U < 2 ^ xs.length := by rw [hU]; exact Nat.and_lt_two_pow _ hFl
      have hAB62 : A ||| B < 2 ^ 62 := Nat.lt_of_lt_of_le (Nat.or_lt_two_pow hAl hBl) (Nat.pow_le_pow_right (by decide) (by omega))
      have hTA := hT A
      have hTB := hT B
      have hCU := hC U
      have hA62 : A < 2 ^ 62 := by omega
      have hB62 : B < 2 ^ 62 := by omega
      have hB062 : B2 < 2 ^ 62 := by omega
      cases vA : threatL (R : Int) (C : Int) xs (P : Int) (A : Int) with
      | false =>
        rw [vA] at hTA
        repeat (first | with_reducible refine wT ?_ | with_reducible refine wF ?_ | with_reducible refine wg0 rfl ?_ | with_reducible refine wpT ?_ | with_reducible refine wnF ?_ | with_reducible refine wsm ?_ | with_reducible refine wrB ?_ | with_reducible refine wbd (by assumption) ?_ | (with_reducible refine wbd (hal _) ?_) | (with_reducible refine wcv (hTA _ (by assumption)) (by assumption) hb1 fun _ _ => ?_) | (with_reducible refine wandNot hB062 hA62 ?_) | with_reducible refine wlssF (by omega) ?_ | rw [kLoop_exit] | rw [laws_FnTwoThreats.after0_se0_5_6_7_8_11_12_13_14_74] | dsimp only | simp only [env_C, env_g, env_lf, env_pick, env_alloc, env_box, env_build, env_buildSlice, env_load, env_store, env_ptr, env_bin, env_un, env_conv, env_make, env_slice, env_fieldAddr, env_field, env_indexAddr, env_index, env_extract, env_len, env_append, env_max, env_min, env_makeMap, env_lookup, env_update])
        exact W.ret rfl
      | true =>
        rw [vA] at hTA
        cases vB : threatL (R : Int) (C : Int) xs (P : Int) (B : Int) with
        | false =>
          rw [vB] at hTB
          repeat (first | with_reducible refine wT ?_ | with_reducible refine wF ?_ | with_reducible refine wg1 rfl ?_ | with_reducible refine wpF ?_ | with_reducible refine wnT ?_ | with_reducible refine wnF ?_ | with_reducible refine wpv ?_ | with_reducible refine wsm ?_ | with_reducible refine wrB ?_ | with_reducible refine wbd (by assumption) ?_ | (with_reducible refine wbd (hal _) ?_) | (with_reducible refine wcv (hTA _ (by assumption)) (by assumption) hb1 fun _ _ => ?_) | (with_reducible refine wcv (hTB _ (by assumption)) (by assumption) hb1 fun _ _ => ?_) | (with_reducible refine wandNot hB062 hA62 ?_) | (rw [← hB]) | with_reducible refine wlssF (by omega) ?_ | rw [kLoop_exit] | rw [laws_FnTwoThreats.after0_se0_5_6_7_8_11_12_13_14_74] | dsimp only | simp only [env_C, env_g, env_lf, env_pick, env_alloc, env_box, env_build, env_buildSlice, env_load, env_store, env_ptr, env_bin, env_un, env_conv, env_make, env_slice, env_fieldAddr, env_field, env_indexAddr, env_index, env_extract, env_len, env_append, env_max, env_min, env_makeMap, env_lookup, env_update])
          exact W.ret rfl
        | true =>
          rw [vB] at hTB
          have hcar := two_threats hb hP hAl hBl hUl (fun j _ h1 h2 => by rw [hB, minusN_bit, h1, Bool.not_true, Bool.and_false] at h2; cases h2) (fun j hj => by
            rw [hU, Nat.testBit_and, Nat.testBit_or, (hF j).2 ⟨(List.getElem?_eq_some_iff.1 hj).1, hj⟩, Bool.and_true, Bool.or_eq_true]) vA vB
          rw [hcar] at hCU
          repeat (first | with_reducible refine wF ?_ | with_reducible refine wg1 rfl ?_ | with_reducible refine wpT ?_ | with_reducible refine wpF ?_ | with_reducible refine wnT ?_ | with_reducible refine wpv ?_ | with_reducible refine wsm ?_ | with_reducible refine wrB ?_ | with_reducible refine wbd (by assumption) ?_ | (with_reducible refine wbd (hal _) ?_) | (with_reducible refine wcv (hTA _ (by assumption)) (by assumption) hb1 fun _ _ => ?_) | (with_reducible refine wcv (hTB _ (by assumption)) (by assumption) hb1 fun _ _ => ?_) | (with_reducible refine wcv (hCU _ (by assumption)) (by assumption) hb1 fun _ _ => ?_) | (with_reducible refine wandNot hB062 hA62 ?_) | (with_reducible refine wor hA62 hB62 ?_) | (with_reducible refine wand hAB62 hF62 ?_) | (rw [← hB]) | (rw [← hU]) | with_reducible refine wlssF (by omega) ?_ | rw [kLoop_exit] | rw [laws_FnTwoThreats.after0_se0_5_6_7_8_11_12_13_14_74] | dsimp only | simp only [env_C, env_g, env_lf, env_pick, env_alloc, env_box, env_build, env_buildSlice, env_load, env_store, env_ptr, env_bin, env_un, env_conv, env_make, env_slice, env_fieldAddr, env_field, env_indexAddr, env_index, env_extract, env_len, env_append, env_max, env_min, env_makeMap, env_lookup, env_update])
          exact W.ret rfl
  · have hgt : ¬ (1 : Int) < (zs.length : Int) := by omega
    have hB0l := hB1l
    repeat (first | with_reducible refine wF ?_ | with_reducible refine wg1 rfl ?_ | with_reducible refine wpF ?_ | with_reducible refine wnT ?_ | with_reducible refine wpv ?_ | with_reducible refine wsm ?_ | with_reducible refine wx0 ?_ | with_reducible refine wx1 ?_ | with_reducible refine wx2 ?_ | with_reducible refine wx3 ?_ | with_reducible refine wx4 ?_ | with_reducible refine wbd (by assumption) ?_ | (with_reducible refine wbd (hpos _ (by assumption)) ?_) | (with_reducible refine wsub1 hM1 (by omega) ?_) | (with_reducible refine wand hS62 hM62 ?_) | (with_reducible refine wand hm62 hM62 ?_) | (with_reducible refine wmul hm2 ?_) | (rw [← hM]) | (rw [← hA]) | (rw [hm3]) | (rw [← hB1]) | with_reducible refine wshl (by omega) ?_ | with_reducible refine wgtrF (by omega) ?_ | with_reducible refine weqlF (by omega) ?_ | dsimp only)
    refine loopW (fun u s => ∃ (k F : Nat), s = laws_FnTwoThreats.st0 (.int .i64 (R : Int)) (.int .i64 (C : Int)) q (.int .i64 (P : Int)) (.int .i64 (A : Int)) (.int .i64 (B1 : Int)) (.int .i64 (F : Int)) (.int .i64 (k : Int)) h1 ∧ k + u = xs.length ∧ ∀ j, F.testBit j = true ↔ j < k ∧ xs[j]? = some 0) ?_ lf xs.length _ (by omega) ⟨0, 0, rfl, by omega, fun j => by rw [Nat.zero_testBit]; exact ⟨fun h => (by cases h), fun h => absurd h.1 (by omega)⟩⟩
    rintro n1 u s ⟨k, F, rfl, hku, hF⟩ next
    have hF9 : F < 2 ^ 9 := by
      apply Nat.lt_of_not_le
      intro h
      obtain ⟨i, hi, hbt⟩ := Nat.exists_ge_and_testBit_of_ge_two_pow h
      exact absurd ((hF i).1 hbt).1 (by omega)
    have hF62 : F < 2 ^ 62 := Nat.lt_of_lt_of_le hF9 (by decide)
    rw [laws_FnTwoThreats.body0_eq]
    unfold laws_FnTwoThreats.body0
    simp only [env_load, env_bin, env_indexAddr, env_len]
    cases u with
    | succ u =>
      have hk : k < xs.length := by omega
      obtain ⟨a, ea, la⟩ := (hq _ k0).at' hk
      by_cases hx : xs[k] = 0
      · have h1k : 1 <<< k < 2 ^ 62 := by rw [Nat.one_shiftLeft]; exact Nat.pow_lt_pow_right (by decide) (by omega)
        have hk30 : k ≤ 30 := by omega
        repeat (first | with_reducible refine wT ?_ | with_reducible refine wbd (by assumption) ?_ | (with_reducible refine weqlT hx ?_) | (with_reducible refine wshl hk30 ?_) | (with_reducible refine wor hF62 h1k ?_) | with_reducible refine wadd1 (by omega) ?_ | with_reducible refine wlssT (by omega) ?_)
        refine next _ _ (Nat.lt_succ_self u) ⟨k + 1, F ||| 1 <<< k, rfl, by omega, fun j => ?_⟩
        rw [with_bit, Bool.or_eq_true, hF, decide_eq_true_eq]
        constructor
        · rintro (⟨a1, a2⟩ | rfl)
          · exact ⟨by omega, a2⟩
          · exact ⟨by omega, by rw [List.getElem?_eq_getElem hk, hx]⟩
        · rintro ⟨a1, a2⟩
          by_cases e : j = k
          · exact .inr e
          · exact .inl ⟨by omega, a2⟩
      · repeat (first | with_reducible refine wT ?_ | with_reducible refine wF ?_ | with_reducible refine wbd (by assumption) ?_ | (with_reducible refine weqlF hx ?_) | with_reducible refine wadd1 (by omega) ?_ | with_reducible refine wlssT (by omega) ?_)
        refine next _ _ (Nat.lt_succ_self u) ⟨k + 1, F, rfl, by omega, fun j => ?_⟩
        rw [hF]
        constructor
        · rintro ⟨a1, a2⟩; exact ⟨by omega, a2⟩
        · rintro ⟨a1, a2⟩
          refine ⟨?_, a2⟩
          by_cases e : j = k
          · subst e; rw [List.getElem?_eq_getElem hk] at a2; exact (hx (Option.some.inj a2)).elim
          · omega
    | zero =>
      have hkx : k = xs.length := by omega
      subst hkx
      obtain ⟨B, hB⟩ : ∃ B, B = minusN B1 A := ⟨_, rfl⟩
      have hBl : B < 2 ^ xs.length := by rw [hB]; exact minusN_lt hB0l
      obtain ⟨U, hU⟩ : ∃ U, U = (A ||| B) &&& F := ⟨_, rfl⟩
      have hFl : F < 2 ^ xs.length := by
        apply Nat.lt_of_not_le
        intro h
        obtain ⟨i, hi, hbt⟩ := Nat.exists_ge_and_testBit_of_ge_two_pow h
        exact absurd ((hF i).1 hbt).1 (by omega)
      have hUl : U < 2 ^ xs.length := by rw [hU]; exact Nat.and_lt_two_pow _ hFl
      have hAB62 : A ||| B < 2 ^ 62 := Nat.lt_of_lt_of_le (Nat.or_lt_two_pow hAl hBl) (Nat.pow_le_pow_right (by decide) (by omega))
      have hTA := hT A
      have hTB := hT B
      have hCU := hC U
      have hA62 : A < 2 ^ 62 := by omega
      have hB62 : B < 2 ^ 62 := by omega
      have hB062 : B1 < 2 ^ 62 := by omega
      cases vA : threatL (R : Int) (C : Int) xs (P : Int) (A : Int) with
      | false =>
        rw [vA] at hTA
        repeat (first | with_reducible refine wT ?_ | with_reducible refine wF ?_ | with_reducible refine wg0 rfl ?_ | with_reducible refine wpT ?_ | with_reducible refine wnF ?_ | with_reducible refine wsm ?_ | with_reducible refine wrB ?_ | with_reducible refine wbd (by assumption) ?_ | (with_reducible refine wbd (hal _) ?_) | (with_reducible refine wcv (hTA _ (by assumption)) (by assumption) hb1 fun _ _ => ?_) | (with_reducible refine wandNot hB062 hA62 ?_) | with_reducible refine wlssF (by omega) ?_ | rw [kLoop_exit] | rw [laws_FnTwoThreats.after0_se0_5_6_7_8_11_12_13_14_74] | dsimp only | simp only [env_C, env_g, env_lf, env_pick, env_alloc, env_box, env_build, env_buildSlice, env_load, env_store, env_ptr, env_bin, env_un, env_conv, env_make, env_slice, env_fieldAddr, env_field, env_indexAddr, env_index, env_extract, env_len, env_append, env_max, env_min, env_makeMap, env_lookup, env_update])
        exact W.ret rfl
      | true =>
        rw [vA] at hTA
        cases vB : threatL (R : Int) (C : Int) xs (P : Int) (B : Int) with
        | false =>
          rw [vB] at hTB
          repeat (first | with_reducible refine wT ?_ | with_reducible refine wF ?_ | with_reducible refine wg1 rfl ?_ | with_reducible refine wpF ?_ | with_reducible refine wnT ?_ | with_reducible refine wnF ?_ | with_reducible refine wpv ?_ | with_reducible refine wsm ?_ | with_reducible refine wrB ?_ | with_reducible refine wbd (by assumption) ?_ | (with_reducible refine wbd (hal _) ?_) | (with_reducible refine wcv (hTA _ (by assumption)) (by assumption) hb1 fun _ _ => ?_) | (with_reducible refine wcv (hTB _ (by assumption)) (by assumption) hb1 fun _ _ => ?_) | (with_reducible refine wandNot hB062 hA62 ?_) | (rw [← hB]) | with_reducible refine wlssF (by omega) ?_ | rw [kLoop_exit] | rw [laws_FnTwoThreats.after0_se0_5_6_7_8_11_12_13_14_74] | dsimp only | simp only [env_C, env_g, env_lf, env_pick, env_alloc, env_box, env_build, env_buildSlice, env_load, env_store, env_ptr, env_bin, env_un, env_conv, env_make, env_slice, env_fieldAddr, env_field, env_indexAddr, env_index, env_extract, env_len, env_append, env_max, env_min, env_makeMap, env_lookup, env_update])
          exact W.ret rfl
        | true =>
          rw [vB] at hTB
          have hcar := two_threats hb hP hAl hBl hUl (fun j _ h1 h2 => by rw [hB, minusN_bit, h1, Bool.not_true, Bool.and_false] at h2; cases h2) (fun j hj => by
            rw [hU, Nat.testBit_and, Nat.testBit_or, (hF j).2 ⟨(List.getElem?_eq_some_iff.1 hj).1, hj⟩, Bool.and_true, Bool.or_eq_true]) vA vB
          rw [hcar] at hCU
          repeat (first | with_reducible refine wF ?_ | with_reducible refine wg1 rfl ?_ | with_reducible refine wpT ?_ | with_reducible refine wpF ?_ | with_reducible refine wnT ?_ | with_reducible refine wpv ?_ | with_reducible refine wsm ?_ | with_reducible refine wrB ?_ | with_reducible refine wbd (by assumption) ?_ | (with_reducible refine wbd (hal _) ?_) | (with_reducible refine wcv (hTA _ (by assumption)) (by assumption) hb1 fun _ _ => ?_) | (with_reducible refine wcv (hTB _ (by assumption)) (by assumption) hb1 fun _ _ => ?_) | (with_reducible refine wcv (hCU _ (by assumption)) (by assumption) hb1 fun _ _ => ?_) | (with_reducible refine wandNot hB062 hA62 ?_) | (with_reducible refine wor hA62 hB62 ?_) | (with_reducible refine wand hAB62 hF62 ?_) | (rw [← hB]) | (rw [← hU]) | with_reducible refine wlssF (by omega) ?_ | rw [kLoop_exit] | rw [laws_FnTwoThreats.after0_se0_5_6_7_8_11_12_13_14_74] | dsimp only | simp only [env_C, env_g, env_lf, env_pick, env_alloc, env_box, env_build, env_buildSlice, env_load, env_store, env_ptr, env_bin, env_un, env_conv, env_make, env_slice, env_fieldAddr, env_field, env_indexAddr, env_index, env_extract, env_len, env_append, env_max, env_min, env_makeMap, env_lookup, env_update])
          exact W.ret rfl

end Go.Proofs.YtmhflbomploidaaDoor

/- All sets of the cells of a set, in ascending order, by a carry that passes over the other cells. No program text. -/
set_option maxRecDepth 20000
namespace Go.Proofs.YtmhflbomploidaaDoor
open Go Go.Ip G

end Go.Proofs.YtmhflbomploidaaDoor

/- Lists that are in order by a number: blocks, and what is merged; all sets of the cells of a set by their sizes. No program text. -/
set_option maxRecDepth 20000
namespace Go.Proofs.YtmhflbomploidaaDoor
open Go Go.Ip G

section
variable (kf cf : Int → Nat)
/-- In order, none twice. -/
def Srt (l : List Int) : Prop := l.Pairwise fun a b => kf a < kf b
/-- The coarse number tells of the two, the one from before and the one from behind, what the fine one tells. -/
def Cp (a b : Int) : Prop := kf a ≠ kf b ∧ (cf b < cf a ↔ kf b < kf a)
/-- In blocks of so many, each in order. -/
inductive Blk (bs : Nat) : List Int → List Int → Prop
  | last {l s : List Int} : l.length ≤ bs → s.Perm l → Srt kf s → Blk bs l s
  | more {a sa r ys : List Int} : a.length = bs → sa.Perm a → Srt kf sa → Blk bs r ys → Blk bs (a ++ r) (sa ++ ys)
end

section
variable {kf cf : Int → Nat}
theorem Srt.left {a b : List Int} (h : Srt kf (a ++ b)) : Srt kf a := (List.pairwise_append.1 h).1
theorem Srt.right {a b : List Int} (h : Srt kf (a ++ b)) : Srt kf b := (List.pairwise_append.1 h).2.1
theorem Srt.one (x : Int) : Srt kf [x] := List.pairwise_singleton _ _

theorem Blk.len {bs : Nat} {l s : List Int} (h : Blk kf bs l s) : s.length = l.length := by
  induction h with
  | last _ p _ => exact p.length_eq
  | more _ p _ _ ih => rw [List.length_append, List.length_append, p.length_eq, ih]
/-- The first block. -/
theorem Blk.first {bs : Nat} {l s : List Int} (h : Blk kf bs l s) (hl : bs ≤ l.length) : ∃ a sa r ys, l = a ++ r ∧ s = sa ++ ys ∧ a.length = bs ∧ sa.Perm a ∧ Srt kf sa ∧ Blk kf bs r ys := by
  cases h with
  | last hb p hs => exact ⟨l, s, [], [], (List.append_nil _).symm, (List.append_nil _).symm, by omega, p, hs, .last (Nat.zero_le _) (.refl _) .nil⟩
  | more ha p hs hr => exact ⟨_, _, _, _, rfl, rfl, ha, p, hs, hr⟩

theorem Cp.sub {a b a' b' : List Int} (h : ∀ x ∈ a, ∀ y ∈ b, Cp kf cf x y) (ha : ∀ x ∈ a', x ∈ a) (hb : ∀ x ∈ b', x ∈ b) : ∀ x ∈ a', ∀ y ∈ b', Cp kf cf x y := fun x hx y hy => h x (ha x hx) y (hb y hy)
end

/-! ### lists with a part exchanged -/
section
variable {α : Type}
end

/-! ### all sets of the cells of a set, by their sizes -/
end Go.Proofs.YtmhflbomploidaaDoor

/- The library's stable sort: what it is given, compared by a function of the program, comes in order, and none is lost. -/
set_option maxRecDepth 20000
namespace Go.Proofs.YtmhflbomploidaaDoor
open Go Go.Ip G

section
variable {Q : PV → PHeap → Prop}
end

variable (g : Nat → PV) (lf : Nat)

/-! ### parts that change places -/
end Go.Proofs.YtmhflbomploidaaDoor

/- The library's stable sort: insertion into a block, two blocks merged, and blocks of all sizes. -/
set_option maxRecDepth 20000
namespace Go.Proofs.YtmhflbomploidaaDoor
open Go Go.Ip G

section
variable {Q : PV → PHeap → Prop}
end
/-- A function that compares by a number, and changes nothing. -/
def CmpOk (g : Nat → PV) (lf : Nat) (f : FuncId) (ok : Int → Prop) (cf : Int → Nat) : Prop := ∀ N, 5 ≤ N → ∀ a b : Int, ok a → ok b → ∀ h, ∃ c : Int, CL g lf N f [.int .i64 a, .int .i64 b] h = some (.int .i64 c, h) ∧ (c < 0 ↔ cf a < cf b)

section
variable (g : Nat → PV) (lf : Nat) {f : FuncId} {ok : Int → Prop} {kf cf : Int → Nat} (hcmp : CmpOk g lf f ok cf) (hlf : 1000 < lf)
include hcmp hlf

end
end Go.Proofs.YtmhflbomploidaaDoor

/- The library's stable sort: two blocks merged. -/
set_option maxRecDepth 20000
namespace Go.Proofs.YtmhflbomploidaaDoor
open Go Go.Ip G

section
variable (g : Nat → PV) (lf : Nat) {f : FuncId} {ok : Int → Prop} {kf cf : Int → Nat} (hcmp : CmpOk g lf f ok cf) (hlf : 1000 < lf)
include hcmp hlf

end
end Go.Proofs.YtmhflbomploidaaDoor

/- The program's chapter 2: Joins, GapOf, GroupOf, Filled and GapCells compute what the model's do. -/
set_option maxRecDepth 20000
namespace Go.Proofs.YtmhflbomploidaaDoor
open Go Go.Ip G

variable (g : Nat → PV) (lf n : Nat)

end Go.Proofs.YtmhflbomploidaaDoor

/- The least cell of a set, as the library finds it by its table of 64 bytes; and comparing a slice with nil, copying it. -/
set_option maxRecDepth 20000
namespace Go.Proofs.YtmhflbomploidaaDoor
open Go Go.Ip G

/-- The least number in a set of nine; nine if there is none. -/
def lowN (x : Nat) : Nat := ((List.range 9).find? fun k => x.testBit k).getD 9
def lsB (x : Nat) : Bool := x.testBit (lowN x) && decide (lowN x < 9) && (List.range (lowN x)).all (fun j => !x.testBit j) && (x &&& (x - 1) == without x (lowN x))
theorem ls_all : ((List.range 512).all fun x => x == 0 || lsB x) = true := by kernel_rfl
theorem low_ok {x : Nat} (hx : x < 2 ^ 9) (h0 : x ≠ 0) : x.testBit (lowN x) = true ∧ lowN x < 9 ∧ (∀ j, j < lowN x → x.testBit j = false) ∧ x &&& (x - 1) = without x (lowN x) := by
  have h := List.all_eq_true.1 ls_all x (List.mem_range.2 hx)
  have h1 : lsB x = true := by
    rcases Bool.or_eq_true_iff.1 h with h | h
    · exact absurd (by simpa using h) h0
    · exact h
  unfold lsB at h1
  simp only [Bool.and_eq_true, decide_eq_true_eq, beq_iff_eq] at h1
  obtain ⟨⟨⟨a, b⟩, c⟩, d⟩ := h1
  exact ⟨a, b, fun j hj => by have := List.all_eq_true.1 c j (List.mem_range.2 hj); simpa using this, d⟩

/-- What the library computes, step by step. -/
def isU (o : Option PV) (a : Nat) : Bool := match o with | some (.int .u64 (.ofNat b)) => b == a | _ => false
theorem isU_eq {o : Option PV} {a : Nat} (h : isU o a = true) : o = some (.int .u64 (a : Int)) := by
  unfold isU at h
  split at h
  · have := beq_iff_eq.1 h; subst this; rfl
  · cases h
def tz5 (x : Nat) : Nat := ((1 <<< lowN x) * 285870213051353865) % 2 ^ 64
def tz6 (x : Nat) : Nat := tz5 x / 2 ^ 58
noncomputable def tzB (x : Nat) : Bool := isU (unP .neg (.int .u64 (x : Int))) (2 ^ 64 - x) && (isU (binP Tryd.prog .and 92 (.int .u64 (x : Int)) (.int .u64 ((2 ^ 64 - x : Nat) : Int))) (1 <<< lowN x) &&
  (isU (binP Tryd.prog .mul 92 (.int .u64 ((1 <<< lowN x : Nat) : Int)) (.int .u64 285870213051353865)) (tz5 x) && (isU (binP Tryd.prog .shr 92 (.int .u64 (tz5 x : Int)) (.int .u64 58)) (tz6 x) && tab64N[tz6 x]? == some (lowN x))))
theorem tz_all : ((List.range 512).all fun x => x == 0 || tzB x) = true := by kernel_rfl
theorem tz_one {x : Nat} (hx : x < 2 ^ 9) (h0 : x ≠ 0) : tzB x = true := by
  have h := List.all_eq_true.1 tz_all x (List.mem_range.2 hx)
  rcases Bool.or_eq_true_iff.1 h with h | h
  · exact absurd (beq_iff_eq.1 h) h0
  · exact h
theorem tz_steps {x : Nat} (hx : x < 2 ^ 9) (h0 : x ≠ 0) : ∃ v3 v4 v5, ∃ i : Nat, unP .neg (.int .u64 (x : Int)) = some v3 ∧ binP Tryd.prog .and 92 (.int .u64 (x : Int)) v3 = some v4 ∧ binP Tryd.prog .mul 92 v4 (.int .u64 285870213051353865) = some v5 ∧
    binP Tryd.prog .shr 92 v5 (.int .u64 58) = some (.int .u64 (i : Int)) ∧ tab64N[i]? = some (lowN x) := by
  have h1 := tz_one hx h0
  unfold tzB at h1
  obtain ⟨a, h1⟩ := Bool.and_eq_true_iff.1 h1
  obtain ⟨b, h1⟩ := Bool.and_eq_true_iff.1 h1
  obtain ⟨c, h1⟩ := Bool.and_eq_true_iff.1 h1
  obtain ⟨d, h1⟩ := Bool.and_eq_true_iff.1 h1
  exact ⟨_, _, _, _, isU_eq a, isU_eq b, isU_eq c, isU_eq d, beq_iff_eq.1 h1⟩

theorem tyTzU : Tryd.prog.underlying 97 = some (.array 64 5) := by kernel_rfl
theorem tyTz1 : sizeT Tryd.prog 5 = some 1 := by kernel_rfl
theorem tyTzA : isAggT Tryd.prog 5 = some false := by kernel_rfl
theorem tzConv (l : Nat) (hl : l < 9) : convP Tryd.prog 5 3 (.int .u8 (l : Int)) = some (.int .i64 (l : Int)) := by
  have : convP Tryd.prog 5 3 (.int .u8 (l : Int)) = some (.int .i64 (IntKind.i64.wrap (l : Int))) := by kernel_rfl
  rw [this, wr (by omega)]
theorem tzConv2 (x : Nat) (hx : x < 2 ^ 9) : convP Tryd.prog 3 82 (.int .i64 (x : Int)) = some (.int .u64 (x : Int)) := by
  have : convP Tryd.prog 3 82 (.int .i64 (x : Int)) = some (.int .u64 (IntKind.u64.wrap (x : Int))) := by kernel_rfl
  rw [this]
  have : IntKind.u64.wrap (x : Int) = (x : Int) := by unfold IntKind.wrap; simp [IntKind.bits, IntKind.signed]; omega
  rw [this]

variable (g : Nat → PV) (lf n : Nat)

/-- The library's table is known to lie somewhere. -/
def Big (g : Nat → PV) : Prop := ∃ id, g 2 = .ptr id 0

theorem tz64_W {x : Nat} (hx : x < 2 ^ 9) (h0 : x ≠ 0) (hb : Big g) {h : PHeap} (ht : Tab64 g h) (N : Nat) (hN : 1 ≤ N) : CL g lf N fn_bits_TrailingZeros64 [.int .u64 (x : Int)] h = some (.int .i64 (lowN x : Int), h) := by
  obtain ⟨n, rfl⟩ : ∃ n, N = n + 1 := ⟨N - 1, by omega⟩
  obtain ⟨id, hg⟩ := hb
  have ho := ht id hg
  obtain ⟨v3, v4, v5, i, e3, e4, e5, e6, hi⟩ := tz_steps hx h0
  have hi64 : i < 64 := (List.getElem?_eq_some_iff.1 hi).1
  have e7 : indexAddrP Tryd.prog 97 (.ptr id 0) (.int .u64 (i : Int)) = some (.ptr id i) := by simp [indexAddrP, tyTzU, tyTz1]; omega
  have e8 : loadP Tryd.prog 5 (.ptr id i) h = some (.int .u8 (lowN x : Int)) := by
    simp [loadP, tyTzA, cellsAt, ho, PObj.get, tab64Cells, hi]
  have e9 := tzConv (lowN x) (low_ok hx h0).2.1
  have : W (CL g lf (n + 1) fn_bits_TrailingZeros64 [.int .u64 (x : Int)] h) fun v h' => v = .int .i64 (lowN x : Int) ∧ h' = h := by
    rw [bits_TrailingZeros64.call_eq]
    unfold bits_TrailingZeros64.main
    simp only [env_g, env_load, env_bin, env_un, env_conv, env_indexAddr]
    refine weqlF (by omega) ?_
    rw [hg]
    repeat (first | with_reducible refine wF ?_ | with_reducible refine wrI ?_ | with_reducible refine wbd (by assumption) ?_)
    exact W.ret ⟨rfl, rfl⟩
  obtain ⟨_, _, e, rfl, rfl⟩ := this
  exact e

theorem leastIn_W {x : Nat} (hx : x < 2 ^ 9) (h0 : x ≠ 0) (hb : Big g) {h : PHeap} (ht : Tab64 g h) (N : Nat) (hN : 3 ≤ N) : CL g lf N fn_impl_leastIn [.int .i64 (x : Int)] h = some (.int .i64 (lowN x : Int), h) := by
  obtain ⟨n, rfl⟩ : ∃ n, N = n + 1 := ⟨N - 1, by omega⟩
  obtain ⟨n, rfl⟩ : ∃ m, n = m + 1 := ⟨n - 1, by omega⟩
  have e1 := tzConv2 x hx
  have e2 := tz64_W g lf hx h0 hb ht n (by omega)
  have e3 : CL g lf (n + 1) fn_bits_TrailingZeros [.int .u64 (x : Int)] h = some (.int .i64 (lowN x : Int), h) := by
    have : W (CL g lf (n + 1) fn_bits_TrailingZeros [.int .u64 (x : Int)] h) fun v h' => v = .int .i64 (lowN x : Int) ∧ h' = h := by
      rw [bits_TrailingZeros.call_eq]
      unfold bits_TrailingZeros.main
      simp only [env_C, env_conv]
      repeat (first | with_reducible refine wF ?_ | with_reducible refine wrI ?_ | with_reducible refine wbd (by assumption) ?_ | dsimp only)
      exact W.ret ⟨rfl, rfl⟩
    obtain ⟨_, _, e, rfl, rfl⟩ := this
    exact e
  have : W (CL g lf (n + 1 + 1) fn_impl_leastIn [.int .i64 (x : Int)] h) fun v h' => v = .int .i64 (lowN x : Int) ∧ h' = h := by
    rw [impl_leastIn.call_eq]
    unfold impl_leastIn.main
    simp only [env_C, env_conv]
    repeat (first | with_reducible refine wrI ?_ | with_reducible refine wbd (by assumption) ?_ | dsimp only)
    exact W.ret ⟨rfl, rfl⟩
  obtain ⟨_, _, e, rfl, rfl⟩ := this
  exact e

/-- What a set loses with its least cell. -/
theorem f_drop {x : Nat} (hx : x < 2 ^ 9) (h0 : x ≠ 0) : binP Tryd.prog .sub 3 (.int .i64 (x : Int)) (.int .i64 1) = some (.int .i64 ((x - 1 : Nat) : Int)) ∧ binP Tryd.prog .and 3 (.int .i64 (x : Int)) (.int .i64 ((x - 1 : Nat) : Int)) = some (.int .i64 (without x (lowN x) : Int)) := by
  refine ⟨by rw [bin_sub, wr (by omega), show (x : Int) - 1 = ((x - 1 : Nat) : Int) by omega], ?_⟩
  rw [f_and (by omega) (by omega), (low_ok hx h0).2.2.2]
theorem without_lt9 {x k : Nat} (hx : x < 2 ^ 9) : without x k < 2 ^ 9 := by rw [← minusN_one]; exact minusN_lt hx
theorem without_less {x : Nat} (hx : x < 2 ^ 9) (h0 : x ≠ 0) : without x (lowN x) < x := by
  have h := (low_ok hx h0).2.2.2
  rw [← h]
  have : x &&& (x - 1) ≤ x - 1 := Nat.and_le_right
  omega

/-! ### slices.Clone -/
end Go.Proofs.YtmhflbomploidaaDoor

/- The program's search: structs and a map on the interpreter's heap; the sets' joining; what stands after a move. -/
set_option maxRecDepth 20000
namespace Go.Proofs.YtmhflbomploidaaDoor
open Go Go.Ip G

/-! ### objects by themselves, and what keeps all but one -/
def At (h : PHeap) (id : Nat) (l : List PV) : Prop := h[id]? = some (.own 1 l)
theorem At.lt {h : PHeap} {id : Nat} {l : List PV} (a : At h id l) : id < h.length := (List.getElem?_eq_some_iff.1 a).1
/-- All is as it was but the object m, and what is behind. -/
def KB (m : Nat) (h h' : PHeap) : Prop := h.length ≤ h'.length ∧ ∀ i, i < h.length → i ≠ m → h'[i]? = h[i]?
theorem KB.refl (m : Nat) (h : PHeap) : KB m h h := ⟨Nat.le_refl _, fun _ _ _ => rfl⟩
theorem KB.trans {m : Nat} {a b c : PHeap} (h : KB m a b) (k : KB m b c) : KB m a c := ⟨Nat.le_trans h.1 k.1, fun i hi hn => (k.2 i (Nat.lt_of_lt_of_le hi h.1) hn).trans (h.2 i hi hn)⟩
theorem Keep.kb {m : Nat} {a b : PHeap} (h : Keep a.length a b) : KB m a b := ⟨h.1, fun i hi _ => h.2 i hi⟩
theorem KB.keep {m n : Nat} {a b : PHeap} (h : KB m a b) (hm : n ≤ m) (hn : n ≤ a.length) : Keep n a b := ⟨h.1, fun i hi => h.2 i (Nat.lt_of_lt_of_le hi hn) (by omega)⟩
theorem At.keep {h h' : PHeap} {id : Nat} {l : List PV} (a : At h id l) (k : Keep h.length h h') : At h' id l := by unfold At; rw [k.2 id a.lt]; exact a
theorem At.kb {h h' : PHeap} {id m : Nat} {l : List PV} (a : At h id l) (k : KB m h h') (hn : id ≠ m) : At h' id l := by unfold At; rw [k.2 id a.lt hn]; exact a
def MapAt (h : PHeap) (m : Nat) (es : List (PV × PV)) : Prop := h[m]? = some (.mp es)
theorem MapAt.lt {h : PHeap} {m : Nat} {es : List (PV × PV)} (a : MapAt h m es) : m < h.length := (List.getElem?_eq_some_iff.1 a).1
theorem MapAt.keep {h h' : PHeap} {m : Nat} {es : List (PV × PV)} (a : MapAt h m es) (k : Keep h.length h h') : MapAt h' m es := by unfold MapAt; rw [k.2 m a.lt]; exact a
theorem MapAt.kb {h h' : PHeap} {id m : Nat} {es : List (PV × PV)} (a : MapAt h m es) (k : KB id h h') (hn : m ≠ id) : MapAt h' m es := by unfold MapAt; rw [k.2 m a.lt hn]; exact a
theorem At.ne {h : PHeap} {id m : Nat} {l : List PV} {es : List (PV × PV)} (a : At h id l) (b : MapAt h m es) : id ≠ m := by
  intro e; subst e; unfold At at a; unfold MapAt at b; rw [a] at b; cases b
theorem Fix.kb {b m : Nat} {h h' : PHeap} {p : PV} {xs : List Int} (s : Fix b h p xs) (k : KB m h h') (hb : b ≤ m) (hb2 : b ≤ h.length) : Fix b h' p xs := s.keep (k.keep hb hb2)

section
variable {Q : PV → PHeap → Prop} {h : PHeap}
/-- A new object. -/
theorem wnew {l : List PV} {x : Res} {f : PV × PHeap → Res} (hx : x = some (.ptr h.length 0, h ++ [.own 1 l])) (hf : ∀ h' id, At h' id l → Keep h.length h h' → h.length ≤ id → W (f (.ptr id 0, h')) Q) : W (x.bind f) Q := by
  rw [hx]
  exact hf _ _ (by unfold At; simp) (Keep.append _ _ _ (Nat.le_refl _)) (Nat.le_refl _)
/-- An object is written to. -/
theorem put_at {id : Nat} {l l' : List PV} (a : At h id l) : At (h.set id (.own 1 l')) id l' ∧ KB id h (h.set id (.own 1 l')) := by
  refine ⟨by unfold At; rw [List.getElem?_set_self a.lt], by simp, fun i _ hn => List.getElem?_set_ne (by omega)⟩
end

/-! ### types -/
theorem tyStA : isAggT Tryd.prog 58 = some true := by kernel_rfl
theorem tySt4 : sizeT Tryd.prog 58 = some 4 := by kernel_rfl
theorem tyStZ : zeroCellsT Tryd.prog 58 = some [.int .i64 0, .int .i64 0, .int .i64 0, .int .i64 0] := by kernel_rfl
theorem tyA3 : Tryd.prog.underlying 56 = some (.array 3 3) := by kernel_rfl
theorem tyA9 : Tryd.prog.underlying 75 = some (.array 9 3) := by kernel_rfl
theorem tyMp : Tryd.prog.underlying 74 = some (.map 58 3) := by kernel_rfl
theorem tyMpA : isAggT Tryd.prog 74 = some false := by kernel_rfl
theorem fSt0 (id : Nat) : fieldAddrP Tryd.prog 58 (.ptr id 0) 0 = some (.ptr id 0) := by kernel_rfl
theorem fSt1 (id : Nat) : fieldAddrP Tryd.prog 58 (.ptr id 0) 1 = some (.ptr id 3) := by kernel_rfl
theorem fs0 (id : Nat) : fieldAddrP Tryd.prog 77 (.ptr id 0) 0 = some (.ptr id 0) := by kernel_rfl
theorem fs1 (id : Nat) : fieldAddrP Tryd.prog 77 (.ptr id 0) 1 = some (.ptr id 9) := by kernel_rfl
theorem fs2 (id : Nat) : fieldAddrP Tryd.prog 77 (.ptr id 0) 2 = some (.ptr id 12) := by kernel_rfl
theorem fs3 (id : Nat) : fieldAddrP Tryd.prog 77 (.ptr id 0) 3 = some (.ptr id 15) := by kernel_rfl
theorem ia3 (id o i : Nat) (hi : i < 3) : indexAddrP Tryd.prog 56 (.ptr id o) (.int .i64 (i : Int)) = some (.ptr id (o + i)) := by simp [indexAddrP, tyA3, tySize]; omega
theorem ia9 (id o i : Nat) (hi : i < 9) : indexAddrP Tryd.prog 75 (.ptr id o) (.int .i64 (i : Int)) = some (.ptr id (o + i)) := by simp [indexAddrP, tyA9, tySize]; omega
theorem ld1 {h : PHeap} {id i : Nat} {l : List PV} {v : PV} (a : At h id l) (hv : l[i]? = some v) : loadP Tryd.prog 3 (.ptr id i) h = some v := by
  simp [loadP, tyAgg, cellsAt, show h[id]? = some (.own 1 l) from a, PObj.get, hv]
theorem ldM {h : PHeap} {id i : Nat} {l : List PV} {v : PV} (a : At h id l) (hv : l[i]? = some v) : loadP Tryd.prog 74 (.ptr id i) h = some v := by
  simp [loadP, tyMpA, cellsAt, show h[id]? = some (.own 1 l) from a, PObj.get, hv]
theorem st1 {h : PHeap} {id i : Nat} {l : List PV} {x : Int} (a : At h id l) (hi : i < l.length) : storeP Tryd.prog 3 (.ptr id i) (.int .i64 x) h = some (h.set id (.own 1 (l.set i (.int .i64 x)))) := by
  simp [storeP, show h[id]? = some (.own 1 l) from a, PV.cells, tySize, setCells]; omega

/-! ### what stands -/
def stC (f a b t : Nat) : List PV := [.int .i64 (f : Int), .int .i64 (a : Int), .int .i64 (b : Int), .int .i64 (t : Int)]
def stP (f a b t : Nat) : PV := .agg (stC f a b t)
theorem ldS {h : PHeap} {id f a b t : Nat} (o : At h id (stC f a b t)) : loadP Tryd.prog 58 (.ptr id 0) h = some (stP f a b t) := by
  simp [loadP, tyStA, tySt4, cellsAt, show h[id]? = some (.own 1 (stC f a b t)) from o, PObj.get, stC, stP]
theorem boxS (h : PHeap) (f a b t : Nat) : boxP (stP f a b t) h = some (.ptr h.length 0, h ++ [.own 1 (stC f a b t)]) := by simp [boxP, stP, stC, PV.cells, PV.oneCell]
theorem alS (h : PHeap) : allocP Tryd.prog 58 h = some (.ptr h.length 0, h ++ [.own 1 (stC 0 0 0 0)]) := by simp [allocP, tyStZ, stC]
theorem stS {h : PHeap} {id f a b t f' a' b' t' : Nat} (o : At h id (stC f' a' b' t')) : storeP Tryd.prog 58 (.ptr id 0) (stP f a b t) h = some (h.set id (.own 1 (stC f a b t))) := by
  simp [storeP, show h[id]? = some (.own 1 (stC f' a' b' t')) from o, stP, stC, PV.cells, PV.oneCell, tySt4, setCells]
theorem plainS {f a b t : Nat} : plainEq (stP f a b t) (stP f a b t) = true := plain_agg4

section
variable {Q : PV → PHeap → Prop} {h : PHeap} {id f a b t : Nat}
theorem wboxS {F : PV × PHeap → Res} (hf : ∀ h' id, At h' id (stC f a b t) → Keep h.length h h' → h.length ≤ id → W (F (.ptr id 0, h')) Q) : W ((boxP (stP f a b t) h).bind F) Q := wnew (boxS h f a b t) hf
theorem walS {F : PV × PHeap → Res} (hf : ∀ h' id, At h' id (stC 0 0 0 0) → Keep h.length h h' → h.length ≤ id → W (F (.ptr id 0, h')) Q) : W ((allocP Tryd.prog 58 h).bind F) Q := wnew (alS h) hf
theorem wstS {f' a' b' t' : Nat} (o : At h id (stC f' a' b' t')) {F : PHeap → Res} (hf : ∀ h', At h' id (stC f a b t) → KB id h h' → W (F h') Q) : W ((storeP Tryd.prog 58 (.ptr id 0) (stP f a b t) h).bind F) Q := by
  rw [stS o]; exact hf _ (put_at o).1 (put_at o).2
theorem wst1 {i : Nat} {l : List PV} {x : Int} (o : At h id l) (hi : i < l.length) {F : PHeap → Res} (hf : ∀ h', At h' id (l.set i (.int .i64 x)) → KB id h h' → W (F h') Q) : W ((storeP Tryd.prog 3 (.ptr id i) (.int .i64 x) h).bind F) Q := by
  rw [st1 o hi]; exact hf _ (put_at o).1 (put_at o).2
theorem wia3 {o i : Nat} (hi : i < 3) {F : PV → Res} (hf : W (F (.ptr id (o + i))) Q) : W ((indexAddrP Tryd.prog 56 (.ptr id o) (.int .i64 (i : Int))).bind F) Q := wbd (ia3 id o i hi) hf
theorem wia9 {o i : Nat} (hi : i < 9) {F : PV → Res} (hf : W (F (.ptr id (o + i))) Q) : W ((indexAddrP Tryd.prog 75 (.ptr id o) (.int .i64 (i : Int))).bind F) Q := wbd (ia9 id o i hi) hf
end

variable (g : Nat → PV) (lf n : Nat)

theorem exchanged_W (N : Nat) (hN : 1 ≤ N) (h : PHeap) {T : Nat} (hT : T = 1 ∨ T = 2) : CL g lf N fn_impl_exchanged [.int .i64 (T : Int)] h = some (.int .i64 ((3 - T : Nat) : Int), h) := by
  obtain ⟨n, rfl⟩ : ∃ n, N = n + 1 := ⟨N - 1, by omega⟩
  have : W (CL g lf (n + 1) fn_impl_exchanged [.int .i64 (T : Int)] h) fun v h' => v = .int .i64 ((3 - T : Nat) : Int) ∧ h' = h := by
    rw [impl_exchanged.call_eq]
    unfold impl_exchanged.main
    simp only [env_bin]
    rcases hT with rfl | rfl
    · repeat (first | with_reducible refine wT ?_ | with_reducible refine wrI ?_ | with_reducible refine weqlT (by omega) ?_)
      exact W.ret ⟨rfl, rfl⟩
    · repeat (first | with_reducible refine wT ?_ | with_reducible refine wF ?_ | with_reducible refine wrI ?_ | with_reducible refine weqlT (by omega) ?_ | with_reducible refine weqlF (by omega) ?_)
      exact W.ret ⟨rfl, rfl⟩
  obtain ⟨_, _, e, rfl, rfl⟩ := this
  exact e

theorem Keep.kbs {n m : Nat} {a b c : PHeap} (k : Keep n a b) (hn : n ≤ a.length) (k' : KB m b c) (hm : n ≤ m) : Keep n a c := k.trans (k'.keep hm (Nat.le_trans hn k.1))
theorem wia30 {Q : PV → PHeap → Prop} {id o : Nat} {F : PV → Res} (hf : W (F (.ptr id (o + 0))) Q) : W ((indexAddrP Tryd.prog 56 (.ptr id o) (.int .i64 0)).bind F) Q := wbd (ia3 id o 0 (by decide)) hf

theorem after_W {f a b t k : Nat} (hf : f < 2 ^ 9) (ha : a < 2 ^ 9) (hb : b < 2 ^ 9) (hk : k < 9) (ht : t = 1 ∨ t = 2) (N : Nat) (hN : 2 ≤ N) (h : PHeap) :
    W (CL g lf N fn_impl_standing_after [stP f a b t, .int .i64 (k : Int)] h) fun v h' => v = stP (without f k) (putA t k a) (putB t k b) (3 - t) ∧ Keep h.length h h' := by
  obtain ⟨n, rfl⟩ : ∃ n, N = n + 1 := ⟨N - 1, by omega⟩
  have hsl := shl_lt hk
  have e1 : ∀ h, CL g lf n fn_impl_exchanged [.int .i64 (t : Int)] h = some (.int .i64 ((3 - t : Nat) : Int), h) := fun h => exchanged_W g lf n (by omega) h ht
  rw [impl_standing_after.call_eq]
  unfold impl_standing_after.main
  simp only [env_C, env_alloc, env_box, env_load, env_store, env_bin, env_fieldAddr, env_indexAddr]
  refine wboxS fun h1 id o1 k1 l1 => ?_
  dsimp only
  refine walS fun h2 id2 o2 k2 l2 => ?_
  have o1' := o1.keep k2
  have hne : id2 ≠ id := by have := o1.lt; omega
  have kk2 : Keep h.length h h2 := k1.trans (k2.mono k1.1)
  repeat (first | (with_reducible refine wbd (fSt0 _) ?_) | (with_reducible refine wia30 ?_) | (with_reducible refine wbd (ld1 (by assumption) rfl) ?_) | with_reducible refine wshl (by omega) ?_ | with_reducible refine wandNot (by omega) (by omega) ?_ | dsimp only)
  refine wst1 o1' (show 0 + 0 < 4 by decide) fun h3 o3 k3 => ?_
  have o3 : At h3 id (stC (without f k) a b t) := o3
  have o23 := o2.kb k3 hne
  rcases ht with rfl | rfl
  · repeat (first | (with_reducible refine wbd (fSt0 _) ?_) | (with_reducible refine wbd (fSt1 _) ?_) | (with_reducible refine wia3 (by omega) ?_) | (with_reducible refine wbd (ld1 (by assumption) rfl) ?_) | with_reducible refine wshl (by omega) ?_ | with_reducible refine wor (by omega) (by omega) ?_)
    refine wst1 o3 (show 0 + 1 < 4 by decide) fun h4 o4 k4 => ?_
    have o4 : At h4 id (stC (without f k) (a ||| 1 <<< k) b 1) := o4
    have o24 := o23.kb k4 hne
    have e2 := e1 h4
    repeat (first | with_reducible refine wbd (by assumption) ?_ | (with_reducible refine wbd (fSt1 _) ?_) | (with_reducible refine wbd (ld1 (by assumption) rfl) ?_) | dsimp only)
    refine wst1 o4 (show 3 < 4 by decide) fun h5 o5 k5 => ?_
    have o5 : At h5 id (stC (without f k) (a ||| 1 <<< k) b (3 - 1)) := o5
    have o25 := o24.kb k5 hne
    repeat (first | (with_reducible refine wbd (ldS (by assumption)) ?_))
    refine wstS o25 fun h6 o6 k6 => ?_
    repeat (first | (with_reducible refine wbd (ldS (by assumption)) ?_))
    exact W.ret ⟨rfl, (((kk2.kbs (Nat.le_refl _) k3 l1).kbs (Nat.le_refl _) k4 l1).kbs (Nat.le_refl _) k5 l1).kbs (Nat.le_refl _) k6 (Nat.le_trans k1.1 l2)⟩
  · repeat (first | (with_reducible refine wbd (fSt0 _) ?_) | (with_reducible refine wbd (fSt1 _) ?_) | (with_reducible refine wia3 (by omega) ?_) | (with_reducible refine wbd (ld1 (by assumption) rfl) ?_) | with_reducible refine wshl (by omega) ?_ | with_reducible refine wor (by omega) (by omega) ?_)
    refine wst1 o3 (show 0 + 2 < 4 by decide) fun h4 o4 k4 => ?_
    have o4 : At h4 id (stC (without f k) a (b ||| 1 <<< k) 2) := o4
    have o24 := o23.kb k4 hne
    have e2 := e1 h4
    repeat (first | with_reducible refine wbd (by assumption) ?_ | (with_reducible refine wbd (fSt1 _) ?_) | (with_reducible refine wbd (ld1 (by assumption) rfl) ?_) | dsimp only)
    refine wst1 o4 (show 3 < 4 by decide) fun h5 o5 k5 => ?_
    have o5 : At h5 id (stC (without f k) a (b ||| 1 <<< k) (3 - 2)) := o5
    have o25 := o24.kb k5 hne
    repeat (first | (with_reducible refine wbd (ldS (by assumption)) ?_))
    refine wstS o25 fun h6 o6 k6 => ?_
    repeat (first | (with_reducible refine wbd (ldS (by assumption)) ?_))
    exact W.ret ⟨rfl, (((kk2.kbs (Nat.le_refl _) k3 l1).kbs (Nat.le_refl _) k4 l1).kbs (Nat.le_refl _) k5 l1).kbs (Nat.le_refl _) k6 (Nat.le_trans k1.1 l2)⟩

/-! ### a board's search -/
def nearV (R C j : Nat) : Nat := if j < R * C then wideN R C (1 <<< j) else 0
def srchV (R C : Nat) : List Nat := (List.range 9).map (nearV R C) ++ [0, sideN R C 1 false, sideN R C 2 false, 0, sideN R C 1 true, sideN R C 2 true]
def srchC (R C m : Nat) : List PV := (srchV R C).map (fun x : Nat => .int .i64 (x : Int)) ++ [.mapv m]
theorem srch_near (R C m k : Nat) (hk : k < 9) : (srchC R C m)[0 + k]? = some (.int .i64 (nearV R C k : Int)) := by
  rw [Nat.zero_add]
  unfold srchC srchV
  rw [List.map_append, List.append_assoc, List.getElem?_append_left (by simp; omega)]
  simp [hk]
theorem srch_first (R C m : Nat) {P : Nat} (hP : P = 1 ∨ P = 2) : (srchC R C m)[9 + P]? = some (.int .i64 (sideN R C P false : Int)) := by
  rcases hP with rfl | rfl <;> rfl
theorem srch_last (R C m : Nat) {P : Nat} (hP : P = 1 ∨ P = 2) : (srchC R C m)[12 + P]? = some (.int .i64 (sideN R C P true : Int)) := by
  rcases hP with rfl | rfl <;> rfl
theorem srch_map (R C m : Nat) : (srchC R C m)[15]? = some (.mapv m) := rfl

theorem nearV_lt {R C j : Nat} (hB : BoardOf R C) (hj : j < 9) : nearV R C j < 2 ^ 9 := by
  unfold nearV; split
  · exact wide_lt hB (shl_lt hj)
  · decide
theorem nearV_bit {R C k j : Nat} (hB : BoardOf R C) (hk : k < R * C) : (nearV R C k).testBit j = true ↔ j = k ∨ Adj (masksN R C) k j := by
  unfold nearV
  rw [if_pos hk, wide_bit hB, one_bit]
  constructor
  · rintro (h | ⟨i, h1, h2⟩)
    · exact .inl (by simpa using h)
    · rw [one_bit] at h1
      have : i = k := by simpa using h1
      exact .inr (this ▸ h2)
  · rintro (h | h)
    · exact .inl (by simpa using h)
    · exact .inr ⟨k, by rw [one_bit]; simp, h⟩
theorem bit_lt {x n j : Nat} (hx : x < 2 ^ n) (hj : x.testBit j = true) : j < n := by
  apply Classical.byContradiction
  intro hn
  rw [Nat.testBit_lt_two_pow (Nat.lt_of_lt_of_le hx (Nat.pow_le_pow_right (by decide) (by omega)))] at hj; cases hj

theorem joins_W {R C P own : Nat} (hB : BoardOf R C) (hP : P = 1 ∨ P = 2) (hown : own < 2 ^ (R * C)) (hbig : Big g) {h : PHeap} {s m : Nat} (hs : At h s (srchC R C m)) (ht : Tab64 g h) (N : Nat) (hN : 4 ≤ N) (hlf : 1000 < lf) :
    CL g lf N fn_impl_search_joins [.ptr s 0, .int .i64 (own : Int), .int .i64 (P : Int)] h = some (.bool (joinsN R C P own), h) := by
  obtain ⟨n, rfl⟩ : ∃ n, N = n + 1 := ⟨N - 1, by omega⟩
  have h9 := hB.2.2.2.2
  have hown9 : own < 2 ^ 9 := Nat.lt_of_lt_of_le hown (Nat.pow_le_pow_right (by decide) h9)
  have hP3 : P < 3 := by omega
  have s1 := sideN_lt (P := P) (last := false) hB
  have s2 := sideN_lt (P := P) (last := true) hB
  have hS9 : own &&& sideN R C P false < 2 ^ 9 := Nat.and_lt_two_pow _ s1
  have : W (CL g lf (n + 1) fn_impl_search_joins [.ptr s 0, .int .i64 (own : Int), .int .i64 (P : Int)] h) fun v h' => v = .bool (joinsN R C P own) ∧ h' = h := by
    rw [impl_search_joins.call_eq]
    unfold impl_search_joins.main
    simp only [env_lf, env_load, env_ptr, env_bin, env_fieldAddr, env_indexAddr]
    repeat (first | with_reducible refine wptr ?_ | (with_reducible refine wbd (fs1 _) ?_) | (with_reducible refine wia3 (by omega) ?_) | (with_reducible refine wbd (ld1 (by assumption) (srch_first _ _ _ hP)) ?_) | with_reducible refine wand (by omega) (by omega) ?_)
    obtain ⟨S, hS⟩ : ∃ S, S = own &&& sideN R C P false := ⟨_, rfl⟩
    rw [← hS] at hS9 ⊢
    have hSo : ∀ j, S.testBit j = true → own.testBit j = true := fun j hj => by
      rw [hS, Nat.testBit_and, Bool.and_eq_true] at hj; exact hj.1
    refine loopW (fun m' st => ∃ X w : Nat, st = impl_search_joins.st0 (.ptr s 0) (.int .i64 (own : Int)) (.int .i64 (P : Int)) (.int .i64 (X : Int)) (.int .i64 (w : Int)) h ∧ X < 2 ^ 9 ∧ (∀ j, w.testBit j = true → X.testBit j = true) ∧ (∀ j, X.testBit j = true → own.testBit j = true) ∧
      (∀ j, S.testBit j = true → X.testBit j = true) ∧ (∀ j, X.testBit j = true → Reach (masksN R C) (S ||| own) S j) ∧ (∀ k j, X.testBit k = true → w.testBit k = false → Adj (masksN R C) k j → own.testBit j = true → X.testBit j = true) ∧ m' = (512 - X) + (if w = 0 then 0 else 1)) ?_ lf (512 - S + (if S = 0 then 0 else 1)) _ (by split <;> omega)
      ⟨S, S, rfl, hS9, fun _ h => h, hSo, fun _ h => h, fun j hj => .start hj (by rw [Nat.testBit_or, hj]; rfl), fun k j h1 h2 _ _ => (by rw [h1] at h2; cases h2), rfl⟩
    rintro n1 m1 st ⟨X, w, rfl, hX, hw, hXo, hSX, hXr, hc, hm⟩ next
    rw [impl_search_joins.body0_eq]
    unfold impl_search_joins.body0
    simp only [env_lf, env_bin]
    by_cases e : w = 0
    · subst e
      repeat (first | with_reducible refine wF ?_ | with_reducible refine wptr ?_ | (with_reducible refine wbd (fs2 _) ?_) | (with_reducible refine wia3 (by omega) ?_) | (with_reducible refine wbd (ld1 (by assumption) (srch_last _ _ _ hP)) ?_) | with_reducible refine wand (by omega) (by omega) ?_ | with_reducible refine wneqF (by omega) ?_ | rw [kLoop_exit] | rw [impl_search_joins.after0_se0_0_1_2_7_8_21] | simp only [env_C, env_g, env_lf, env_pick, env_alloc, env_box, env_build, env_buildSlice, env_load, env_store, env_ptr, env_bin, env_un, env_conv, env_make, env_slice, env_fieldAddr, env_field, env_indexAddr, env_index, env_extract, env_len, env_append, env_max, env_min, env_makeMap, env_lookup, env_update])
      have hXg : X = growN (masksN R C) own (sideN R C P false) := by
        rw [grown_is hS9 hown9 hSX hXr fun k j h1 h2 h3 => hc k j h1 (Nat.zero_testBit _) h2 h3, hS, Nat.and_comm]
        exact grown_in
      unfold joinsN
      rw [← hXg]
      refine wneq (fun e => ?_) (fun e => ?_)
      · repeat (first | with_reducible refine wrB ?_)
        refine W.ret ⟨?_, rfl⟩
        rw [decide_eq_false (by omega)]; rfl
      · repeat (first | with_reducible refine wrB ?_)
        refine W.ret ⟨?_, rfl⟩
        rw [decide_eq_true (by omega)]; rfl
    · have hw9 : w < 2 ^ 9 := Nat.lt_of_le_of_lt (sub_le hw) hX
      have hwc : ∀ k, w.testBit k = true → k < R * C := fun k hk => bit_lt hown (hXo k (hw k hk))
      repeat (first | with_reducible refine wT ?_ | with_reducible refine wneqT (by omega) ?_)
      refine loopW (fun m' st => ∃ wd r : Nat, st = impl_search_joins.st1 (.ptr s 0) (.int .i64 (own : Int)) (.int .i64 (P : Int)) (.int .i64 (X : Int)) (.int .i64 (wd : Int)) (.int .i64 (r : Int)) h ∧ wd < 2 ^ 9 ∧ r < 2 ^ 9 ∧ (∀ j, r.testBit j = true → w.testBit j = true) ∧
        (∀ j, wd.testBit j = true ↔ ∃ k, w.testBit k = true ∧ r.testBit k = false ∧ (nearV R C k).testBit j = true) ∧ m' = r) ?_ lf w _ (by omega) ⟨0, w, rfl, by decide, hw9, fun _ h => h, fun j => ⟨fun h => (by rw [Nat.zero_testBit] at h; cases h), fun ⟨k, h1, h2, _⟩ => (by rw [h1] at h2; cases h2)⟩, rfl⟩
      rintro n2 m2 st ⟨wd, r, rfl, hwd, hr, hrw, hwb, hm2⟩ next2
      rw [impl_search_joins.body1_eq]
      unfold impl_search_joins.body1
      simp only [env_C, env_load, env_ptr, env_bin, env_fieldAddr, env_indexAddr]
      by_cases e2 : r = 0
      · subst e2
        have hal : wd &&& own < 2 ^ 9 := Nat.and_lt_two_pow _ hown9
        have hml : minusN (wd &&& own) X < 2 ^ 9 := minusN_lt hal
        repeat (first | with_reducible refine wF ?_ | with_reducible refine wand (by omega) (by omega) ?_ | with_reducible refine wor (by omega) (by omega) ?_ | with_reducible refine wandNot (by omega) (by omega) ?_ | with_reducible refine wneqF (by omega) ?_ | rw [kLoop_exit] | rw [impl_search_joins.after1_se2_0_1_2_7_9_10_24] | simp only [env_C, env_g, env_lf, env_pick, env_alloc, env_box, env_build, env_buildSlice, env_load, env_store, env_ptr, env_bin, env_un, env_conv, env_make, env_slice, env_fieldAddr, env_field, env_indexAddr, env_index, env_extract, env_len, env_append, env_max, env_min, env_makeMap, env_lookup, env_update])
        obtain ⟨w', hw'⟩ : ∃ w', w' = minusN (wd &&& own) X := ⟨_, rfl⟩
        have hb : ∀ j, w'.testBit j = true ↔ (w.testBit j = true ∨ ∃ k, w.testBit k = true ∧ Adj (masksN R C) k j) ∧ own.testBit j = true ∧ X.testBit j = false := fun j => by
          have hwj : wd.testBit j = true ↔ (w.testBit j = true ∨ ∃ k, w.testBit k = true ∧ Adj (masksN R C) k j) := by
            rw [hwb]
            constructor
            · rintro ⟨k, h1, _, h2⟩
              rcases (nearV_bit hB (hwc k h1)).1 h2 with rfl | h3
              · exact .inl h1
              · exact .inr ⟨k, h1, h3⟩
            · rintro (h1 | ⟨k, h1, h3⟩)
              · exact ⟨j, h1, Nat.zero_testBit _, (nearV_bit hB (hwc j h1)).2 (.inl rfl)⟩
              · exact ⟨k, h1, Nat.zero_testBit _, (nearV_bit hB (hwc k h1)).2 (.inr h3)⟩
          rw [← hwj, hw', minusN_bit, Nat.testBit_and]; cases wd.testBit j <;> cases own.testBit j <;> cases X.testBit j <;> simp
        rw [← hw'] at hml ⊢
        have hor : X ||| w' < 2 ^ 9 := Nat.or_lt_two_pow hX hml
        have hle : X ≤ X ||| w' := Nat.left_le_or
        have hne : w' ≠ 0 → X ≠ X ||| w' := fun hz he => by
          obtain ⟨j, hj⟩ := bit_of_ne hz
          have h1 := ((hb j).1 hj).2.2
          rw [he, Nat.testBit_or, hj, Bool.or_true] at h1; cases h1
        refine next _ _ ?_ ⟨X ||| w', w', rfl, hor, fun j hj => by rw [Nat.testBit_or, hj, Bool.or_true], fun j hj => ?_, fun j hj => by rw [Nat.testBit_or, hSX j hj, Bool.true_or], ?_, ?_, rfl⟩
        · rw [hm, if_neg e]
          by_cases e' : w' = 0
          · rw [if_pos e']; omega
          · rw [if_neg e']; have := hne e'; omega
        · rw [Nat.testBit_or, Bool.or_eq_true] at hj
          rcases hj with hj | hj
          · exact hXo j hj
          · exact ((hb j).1 hj).2.1
        · intro j hj
          rw [Nat.testBit_or, Bool.or_eq_true] at hj
          rcases hj with hj | hj
          · exact hXr j hj
          · obtain ⟨h1 | ⟨k, h1, h2⟩, h3, h4⟩ := (hb j).1 hj
            · rw [hw j h1] at h4; cases h4
            · exact .step (hXr k (hw k h1)) h2 (by rw [Nat.testBit_or, h3, Bool.or_true])
        · intro k j h1 h2 h3 h4
          rw [Nat.testBit_or, h2, Bool.or_false] at h1
          rw [Nat.testBit_or]
          by_cases hk : w.testBit k = true
          · cases hx : X.testBit j with
            | true => rfl
            | false => rw [(hb j).2 ⟨.inr ⟨k, hk, h3⟩, h4, hx⟩]; rfl
          · rw [hc k j h1 (by simpa using hk) h3 h4]; rfl
      · have el := leastIn_W g lf hr e2 hbig ht n (by omega)
        obtain ⟨l1, l2, l3, l4⟩ := low_ok hr e2
        obtain ⟨d1, d2⟩ := f_drop hr e2
        have hlt := without_less hr e2
        have hwl := without_lt9 (k := lowN r) hr
        obtain ⟨k, hk⟩ : ∃ k, k = lowN r := ⟨_, rfl⟩
        rw [← hk] at el l1 l2 d2 hlt hwl
        have hnv := nearV_lt hB l2
        have hwr := hrw k l1
        repeat (first | with_reducible refine wT ?_ | with_reducible refine wptr ?_ | with_reducible refine wbd (by assumption) ?_ | (with_reducible refine wbd (fs0 _) ?_) | (with_reducible refine wia9 l2 ?_) | (with_reducible refine wbd (ld1 (by assumption) (srch_near _ _ _ _ l2)) ?_) | with_reducible refine wor (by omega) (by omega) ?_ | with_reducible refine wneqT (by omega) ?_ | dsimp only)
        refine next2 _ _ (hm2 ▸ hlt) ⟨_, _, rfl, Nat.or_lt_two_pow hwd hnv, hwl, fun j hj => ?_, fun j => ?_, rfl⟩
        · rw [without_bit, Bool.and_eq_true] at hj; exact hrw j hj.1
        · rw [Nat.testBit_or, Bool.or_eq_true, hwb]
          constructor
          · rintro (⟨i, h1, h2, h3⟩ | h1)
            · exact ⟨i, h1, by rw [without_bit, h2]; rfl, h3⟩
            · exact ⟨k, hwr, by rw [without_bit]; simp, h1⟩
          · rintro ⟨i, h1, h2, h3⟩
            by_cases hik : i = k
            · subst hik; exact .inr h3
            · rw [without_bit] at h2
              simp only [ne_eq, hik, not_false_eq_true, decide_true, Bool.and_true] at h2
              exact .inl ⟨i, h1, h2, h3⟩
  obtain ⟨_, _, e, rfl, rfl⟩ := this
  exact e

def whoN (R C a b : Nat) : Nat := if joinsN R C 1 a = true then 1 else if joinsN R C 2 b = true then 2 else 0

theorem joined_W {R C f a b t : Nat} (hB : BoardOf R C) (hp : Pos R C a b) (hbig : Big g) {h : PHeap} {s m : Nat} (hs : At h s (srchC R C m)) (ht : Tab64 g h) (N : Nat) (hN : 5 ≤ N) (hlf : 1000 < lf) :
    ∃ h', CL g lf N fn_impl_search_joined [.ptr s 0, stP f a b t] h = some (.int .i64 (whoN R C a b : Int), h') ∧ Keep h.length h h' := by
  obtain ⟨n, rfl⟩ : ∃ n, N = n + 1 := ⟨N - 1, by omega⟩
  have : W (CL g lf (n + 1) fn_impl_search_joined [.ptr s 0, stP f a b t] h) fun v h' => v = .int .i64 (whoN R C a b : Int) ∧ Keep h.length h h' := by
    rw [impl_search_joined.call_eq]
    unfold impl_search_joined.main
    simp only [env_lf, env_box]
    refine wboxS fun h1 id o1 k1 l1 => ?_
    have hs1 := hs.keep k1
    have e1 := joins_W g lf hB (P := 1) (.inl rfl) hp.1 hbig hs1 (ht.keep k1) n (by omega) hlf
    have e2 := joins_W g lf hB (P := 2) (.inr rfl) hp.2.1 hbig hs1 (ht.keep k1) n (by omega) hlf
    refine loopW (fun m' st => ∃ P : Nat, st = impl_search_joined.st0 (.ptr s 0) (.ptr id 0) (.int .i64 (P : Int)) h1 ∧ P + m' = 3 ∧ 1 ≤ P ∧ (2 ≤ P → joinsN R C 1 a = false) ∧ (3 ≤ P → joinsN R C 2 b = false)) ?_ lf 2 _ (by omega) ⟨1, rfl, rfl, by decide, by omega, by omega⟩
    rintro n1 m1 st ⟨P, rfl, hm, hP1, j1, j2⟩ next
    rw [impl_search_joined.body0_eq]
    unfold impl_search_joined.body0
    simp only [env_C, env_load, env_bin, env_fieldAddr, env_indexAddr]
    have hP : P = 1 ∨ P = 2 ∨ P = 3 := by omega
    rcases hP with rfl | rfl | rfl
    · cases hj : joinsN R C 1 a with
      | true =>
        rw [hj] at e1
        repeat (first | with_reducible refine wT ?_ | with_reducible refine wrI ?_ | with_reducible refine wbd (by assumption) ?_ | (with_reducible refine wbd (fSt0 _) ?_) | (with_reducible refine wia3 (by omega) ?_) | (with_reducible refine wbd (ld1 (by assumption) rfl) ?_) | with_reducible refine wleqT (by omega) ?_ | rw [kLoop_ret] | rw [impl_search_joined.K0_ret] | rw [impl_search_joined.top_sr_4] | dsimp only)
        exact W.ret ⟨by unfold whoN; rw [hj]; rfl, k1⟩
      | false =>
        rw [hj] at e1
        repeat (first | with_reducible refine wT ?_ | with_reducible refine wF ?_ | with_reducible refine wbd (by assumption) ?_ | (with_reducible refine wbd (fSt0 _) ?_) | (with_reducible refine wia3 (by omega) ?_) | (with_reducible refine wbd (ld1 (by assumption) rfl) ?_) | with_reducible refine wadd1 (by omega) ?_ | with_reducible refine wleqT (by omega) ?_ | dsimp only)
        exact next _ _ (show 1 < m1 by omega) ⟨2, rfl, rfl, by decide, fun _ => hj, by omega⟩
    · cases hj : joinsN R C 2 b with
      | true =>
        rw [hj] at e2
        repeat (first | with_reducible refine wT ?_ | with_reducible refine wrI ?_ | with_reducible refine wbd (by assumption) ?_ | (with_reducible refine wbd (fSt0 _) ?_) | (with_reducible refine wia3 (by omega) ?_) | (with_reducible refine wbd (ld1 (by assumption) rfl) ?_) | with_reducible refine wleqT (by omega) ?_ | rw [kLoop_ret] | rw [impl_search_joined.K0_ret] | rw [impl_search_joined.top_sr_4] | dsimp only)
        exact W.ret ⟨by unfold whoN; rw [j1 (by decide), hj]; rfl, k1⟩
      | false =>
        rw [hj] at e2
        repeat (first | with_reducible refine wT ?_ | with_reducible refine wF ?_ | with_reducible refine wbd (by assumption) ?_ | (with_reducible refine wbd (fSt0 _) ?_) | (with_reducible refine wia3 (by omega) ?_) | (with_reducible refine wbd (ld1 (by assumption) rfl) ?_) | with_reducible refine wadd1 (by omega) ?_ | with_reducible refine wleqT (by omega) ?_ | dsimp only)
        exact next _ _ (show 0 < m1 by omega) ⟨3, rfl, rfl, by decide, fun _ => j1 (by decide), fun _ => hj⟩
    · repeat (first | with_reducible refine wF ?_ | with_reducible refine wrI ?_ | with_reducible refine wleqF (by omega) ?_ | rw [kLoop_exit] | rw [impl_search_joined.after0_se0_0_3_5_7])
      exact W.ret ⟨by unfold whoN; rw [j1 (by decide), j2 (by decide)]; rfl, k1⟩
  obtain ⟨_, h', e, rfl, k⟩ := this
  exact ⟨h', e, k⟩

end Go.Proofs.YtmhflbomploidaaDoor

/- The program's search with its map: who wins what stands, and by which moves. -/
set_option maxRecDepth 20000
namespace Go.Proofs.YtmhflbomploidaaDoor
open Go Go.Ip G

/-- What may stand: free cells, stones of both, who is to move. -/
def Stands (R C f a b t : Nat) : Prop := Pos R C a b ∧ f < 2 ^ 9 ∧ (∀ k, f.testBit k = true ↔ k < R * C ∧ (a ||| b).testBit k = false) ∧ (t = 1 ∨ t = 2)
theorem Stands.put {R C f a b t k : Nat} (h : Stands R C f a b t) (hk : f.testBit k = true) : Stands R C (without f k) (putA t k a) (putB t k b) (3 - t) := by
  obtain ⟨h1, h2, h3, h4⟩ := h
  obtain ⟨k1, k2⟩ := (h3 k).1 hk
  refine ⟨h1.put k1 k2, without_lt9 h2, fun j => ?_, by omega⟩
  rw [without_bit, put_bit, Bool.and_eq_true, h3, Bool.or_eq_false_iff]
  simp only [decide_eq_true_eq, decide_eq_false_iff_not]
  exact ⟨fun ⟨⟨a1, a2⟩, a3⟩ => ⟨a1, a2, a3⟩, fun ⟨a1, a2, a3⟩ => ⟨⟨a1, a2⟩, a3⟩⟩

/-- Every entry of the map tells who wins. -/
def Memo (R C : Nat) (es : List (PV × PV)) : Prop := ∀ p ∈ es, ∃ f a b t, Stands R C f a b t ∧ p = (stP f a b t, .int .i64 (winN R C a b t : Int))

theorem eqK_st {f a b t f' a' b' t' : Nat} (h : eqK (stP f a b t) (stP f' a' b' t') = true) : f = f' ∧ a = a' ∧ b = b' ∧ t = t' := by
  simp only [eqK, stP, stC, eqL, eq1, Bool.and_eq_true, decide_eq_true_eq] at h
  omega
theorem memo_find {R C f a b t : Nat} : ∀ {es : List (PV × PV)} {v : PV}, Memo R C es → findM es (stP f a b t) = some v → v = .int .i64 (winN R C a b t : Int)
  | [], v, _, h => by cases h
  | p :: es, v, hm, h => by
    obtain ⟨f', a', b', t', _, rfl⟩ := hm p (by simp)
    unfold findM at h
    cases e : eqK (stP f' a' b' t') (stP f a b t) with
    | true =>
      rw [e] at h
      obtain ⟨_, rfl, rfl, rfl⟩ := eqK_st e
      cases h; rfl
    | false =>
      rw [e] at h
      exact memo_find (fun q hq => hm q (by simp [hq])) h
theorem memo_put {R C f a b t : Nat} (hs : Stands R C f a b t) : ∀ {es : List (PV × PV)}, Memo R C es → Memo R C (putM es (stP f a b t) (.int .i64 (winN R C a b t : Int)))
  | [], _ => fun p hp => by
    simp only [putM, List.mem_singleton] at hp
    exact ⟨f, a, b, t, hs, hp⟩
  | p :: es, hm => by
    obtain ⟨f', a', b', t', hs', rfl⟩ := hm p (by simp)
    have hr : Memo R C es := fun q hq => hm q (by simp [hq])
    unfold putM
    cases e : eqK (stP f' a' b' t') (stP f a b t) with
    | true =>
      obtain ⟨rfl, rfl, rfl, rfl⟩ := eqK_st e
      intro q hq
      rcases List.mem_cons.1 hq with rfl | hq
      · exact ⟨f', a', b', t', hs, rfl⟩
      · exact hr q hq
    | false =>
      intro q hq
      rcases List.mem_cons.1 hq with rfl | hq
      · exact ⟨f', a', b', t', hs', rfl⟩
      · exact memo_put hs hr q hq

/-! ### the keys -/
theorem keyedSt : keyedB Tryd.prog 58 = true := by kernel_rfl
theorem zeroInt : zero1 Tryd.prog 3 = some (.int .i64 0) := by kernel_rfl
theorem stU : Tryd.prog.underlying 58 = some (.struct (Tryd.prog.fieldsOf 58)) := by kernel_rfl
theorem stF : (Tryd.prog.fieldsOf 58).toList.map (fun f => (f.type, f.offset)) = [(56, 0), (3, 3)] := by kernel_rfl
theorem stN : (Tryd.prog.fieldsOf 58).all (·.name != "_") = true := by kernel_rfl
theorem stK : Tryd.prog.keyType 58 = true := by kernel_rfl
theorem tyIntU : Tryd.prog.underlying 3 = some (.int .i64) := by kernel_rfl
theorem ce1 : Tryd.prog.cellsOf 3 = 1 := by kernel_rfl
theorem ce3 : Tryd.prog.cellsOf 56 = 3 := by kernel_rfl
theorem ce4 : Tryd.prog.cellsOf 58 = 4 := by kernel_rfl
theorem tySz : Nat.ble 2 Tryd.prog.types.size = true := by kernel_rfl
theorem wf_small {x : Nat} (hx : x < 2 ^ 9) : (Lit.int .i64 (x : Int)).wf = true := by
  have h1 : IntKind.i64.min = -9223372036854775808 := by decide
  have h2 : IntKind.i64.max = 9223372036854775807 := by decide
  simp only [Lit.wf, h1, h2, Bool.and_eq_true, decide_eq_true_eq]
  omega
theorem lits_int {D x : Nat} (hx : x < 2 ^ 9) : Tryd.prog.keyLits (D + 1) 3 [.int .i64 (x : Int)] = some [.int .i64 (x : Int)] := by
  simp [Program.keyLits, tyIntU, wf_small hx]
theorem lits_arr {D x y z : Nat} (hx : x < 2 ^ 9) (hy : y < 2 ^ 9) (hz : z < 2 ^ 9) : Tryd.prog.keyLits (D + 2) 56 [.int .i64 (x : Int), .int .i64 (y : Int), .int .i64 (z : Int)] = some [.int .i64 (x : Int), .int .i64 (y : Int), .int .i64 (z : Int)] := by
  unfold Program.keyLits
  rw [tyA3]
  simp only [ce1, ce3, List.length_cons, List.length_nil, if_true]
  rw [show List.range 3 = [0, 1, 2] from rfl]
  simp [lits_int hx, lits_int hy, lits_int hz]
theorem lits_st {D f a b t : Nat} (hf : f < 2 ^ 9) (ha : a < 2 ^ 9) (hb : b < 2 ^ 9) (ht : t < 2 ^ 9) : ∃ L, Tryd.prog.keyLits (D + 3) 58 [.int .i64 (f : Int), .int .i64 (a : Int), .int .i64 (b : Int), .int .i64 (t : Int)] = some L := by
  unfold Program.keyLits
  rw [stU]
  simp only [ce4, List.length_cons, List.length_nil, stN, and_self, if_true]
  have hF := stF
  generalize Tryd.prog.fieldsOf 58 = fs at hF ⊢
  obtain ⟨L⟩ := fs
  match L, hF with
  | [f0, f1], hF =>
    simp only [List.map_cons, List.map_nil, List.cons.injEq, Prod.mk.injEq, and_true] at hF
    obtain ⟨⟨t0, o0⟩, t1, o1⟩ := hF
    refine ⟨[.int .i64 (f : Int), .int .i64 (a : Int), .int .i64 (b : Int), .int .i64 (t : Int)], ?_⟩
    simp [t0, o0, t1, o1, ce1, ce3, lits_arr hf ha hb, lits_int ht]
  | [], hF => simp at hF
  | [_], hF => simp at hF
  | _ :: _ :: _ :: _, hF => simp at hF
theorem isKey_st {R C f a b t : Nat} (hB : BoardOf R C) (hs : Stands R C f a b t) : isKeyP Tryd.prog 58 (stP f a b t) = true := by
  obtain ⟨hp, hf, _, ht⟩ := hs
  have l9 := hp.lt9 hB
  obtain ⟨D, hD⟩ : ∃ D, Tryd.prog.types.size + 1 = D + 3 := ⟨Tryd.prog.types.size - 2, by have := Nat.le_of_ble_eq_true tySz; omega⟩
  obtain ⟨L, hL⟩ := lits_st (D := D) hf l9.1 l9.2 (show t < 2 ^ 9 by omega)
  have hk : keyV (stP f a b t) = some (.agg #[.int .i64 (f : Int), .int .i64 (a : Int), .int .i64 (b : Int), .int .i64 (t : Int)]) := rfl
  have hfo : (Value.agg #[.int .i64 (f : Int), .int .i64 (a : Int), .int .i64 (b : Int), .int .i64 (t : Int)]).formed Tryd.prog 58 = true := by
    simp [Value.formed, stU, ce4]
  unfold isKeyP
  rw [hk]
  simp only [keyOf, stU, stK, hfo, Bool.and_self, if_true, hD, Value.cells, hL, Option.map_some, Option.isSome_some]
theorem keys_memo {R C : Nat} {es : List (PV × PV)} (hB : BoardOf R C) (hm : Memo R C es) {f a b t : Nat} (hs : Stands R C f a b t) : keysB Tryd.prog 58 es (stP f a b t) = true := by
  unfold keysB
  rw [keyedSt, isKey_st hB hs, Bool.and_self, Bool.true_and, List.all_eq_true]
  intro p hp
  obtain ⟨f', a', b', t', hs', rfl⟩ := hm p hp
  exact isKey_st hB hs'

theorem look_st {R C m : Nat} {es : List (PV × PV)} {h : PHeap} (hB : BoardOf R C) (hM : MapAt h m es) (hm : Memo R C es) {f a b t : Nat} (hs : Stands R C f a b t) :
    lookupP Tryd.prog 74 (.mapv m) (stP f a b t) true h = some (foundP true (.int .i64 0) (findM es (stP f a b t))) := by
  have hk := keys_memo hB hm hs
  have hma : mapAt h m = some es := by unfold mapAt; rw [show h[m]? = some (.mp es) from hM]
  simp only [lookupP, tyMp, hma, zeroInt, hk, cond_true]
theorem upd_st {R C m : Nat} {es : List (PV × PV)} {h : PHeap} (hB : BoardOf R C) (hM : MapAt h m es) (hm : Memo R C es) {f a b t : Nat} (hs : Stands R C f a b t) (x : Int) :
    updateP Tryd.prog 74 (.mapv m) (stP f a b t) (.int .i64 x) h = some (h.set m (.mp (putM es (stP f a b t) (.int .i64 x)))) := by
  have hk := keys_memo hB hm hs
  have hma : mapAt h m = some es := by unfold mapAt; rw [show h[m]? = some (.mp es) from hM]
  simp only [updateP, tyMp, hma, hk, PV.oneCell, Bool.and_self, cond_true]

/-- The search of a board: its tables, and its map, right in every entry. -/
def Sch (R C : Nat) (h : PHeap) (s m : Nat) : Prop := At h s (srchC R C m) ∧ ∃ es, MapAt h m es ∧ Memo R C es
theorem Sch.keep {R C s m : Nat} {h h' : PHeap} (hs : Sch R C h s m) (k : Keep h.length h h') : Sch R C h' s m := by
  obtain ⟨a, es, b, c⟩ := hs; exact ⟨a.keep k, es, b.keep k, c⟩
theorem Sch.ne {R C s m id : Nat} {h : PHeap} {l : List PV} (hs : Sch R C h s m) (a : At h id l) : id ≠ m := by
  obtain ⟨_, es, b, _⟩ := hs; exact a.ne b
theorem Sch.lt {R C s m : Nat} {h : PHeap} (hs : Sch R C h s m) : m < h.length := by
  obtain ⟨_, es, b, _⟩ := hs; exact b.lt
theorem Tab64.kb {g : Nat → PV} {R C s m : Nat} {h h' : PHeap} (t : Tab64 g h) (hs : Sch R C h s m) (k : KB m h h') : Tab64 g h' := fun id e => by
  have ho := t id e
  obtain ⟨_, es, b, _⟩ := hs
  rw [k.2 id (List.getElem?_eq_some_iff.1 ho).1 (fun e => by subst e; unfold MapAt at b; rw [ho] at b; cases b)]; exact ho
theorem Tab.kb {g : Nat → PV} {R C s m : Nat} {h h' : PHeap} (t : Tab g h) (hs : Sch R C h s m) (k : KB m h h') : Tab g h' := by
  obtain ⟨id, e, ho⟩ := t
  obtain ⟨_, es, b, _⟩ := hs
  exact ⟨id, e, by rw [k.2 id (List.getElem?_eq_some_iff.1 ho).1 (fun e => by subst e; unfold MapAt at b; rw [ho] at b; cases b)]; exact ho⟩

theorem who_win {R C a b t : Nat} (hB : BoardOf R C) (hp : Pos R C a b) : (whoN R C a b ≠ 0 → winN R C a b t = whoN R C a b) ∧ (whoN R C a b = 0 → joinsN R C 1 a = false ∧ joinsN R C 2 b = false) ∧ whoN R C a b ≤ 2 := by
  unfold whoN
  cases h1 : joinsN R C 1 a with
  | true => exact ⟨fun _ => win_first h1, fun h => by simp at h, by simp⟩
  | false =>
    cases h2 : joinsN R C 2 b with
    | true => exact ⟨fun _ => by rw [win_second hB hp h2]; rfl, fun h => by simp at h, by simp⟩
    | false => exact ⟨fun h => by simp at h, fun _ => ⟨rfl, rfl⟩, by simp⟩

theorem fr_put' {R C f a b t k : Nat} (hs : Stands R C f a b t) (hk : f.testBit k = true) : frN (R * C) (putA t k a) (putB t k b) + 1 ≤ frN (R * C) a b := by
  obtain ⟨k1, k2⟩ := (hs.2.2.1 k).1 hk; exact fr_put k1 k2

variable (g : Nat → PV) (lf n : Nat)

def WinOk (R C s m : Nat) (b : Nat) : Prop := ∀ (f a b' t N : Nat) (h : PHeap), frN (R * C) a b' ≤ b → Stands R C f a b' t → 2 * b + 8 ≤ N → Sch R C h s m → Tab64 g h →
  W (CL g lf N fn_impl_search_winner [.ptr s 0, stP f a b' t] h) fun v h' => v = .int .i64 (winN R C a b' t : Int) ∧ Sch R C h' s m ∧ KB m h h'

theorem solved_W {R C s m B : Nat} (hB : BoardOf R C) (hbig : Big g) (hlf : 1000 < lf) (ih : ∀ b, b < B → WinOk g lf R C s m b) {f a b t : Nat} (hfr : frN (R * C) a b ≤ B) (hst : Stands R C f a b t) (N : Nat) (hN : 2 * B + 7 ≤ N) {h : PHeap} (hs : Sch R C h s m) (ht : Tab64 g h) :
    W (CL g lf N fn_impl_search_solved [.ptr s 0, stP f a b t] h) fun v h' => v = .int .i64 (winN R C a b t : Int) ∧ Sch R C h' s m ∧ KB m h h' := by
  obtain ⟨n, rfl⟩ : ∃ n, N = n + 1 := ⟨N - 1, by omega⟩
  obtain ⟨hp, hf9, hfree, hT⟩ := id hst
  have h9 := hB.2.2.2.2
  have l9 := hp.lt9 hB
  obtain ⟨w1, w2, w3⟩ := who_win (t := t) hB hp
  rw [impl_search_solved.call_eq]
  unfold impl_search_solved.main
  simp only [env_C, env_lf, env_box, env_load, env_bin, env_fieldAddr, env_indexAddr]
  refine wboxS fun h1 id o1 k1 l1 => ?_
  have hs1 := hs.keep k1
  have ht1 := ht.keep k1
  obtain ⟨h2, e1, k2⟩ := joined_W g lf (f := f) (t := t) hB hp hbig hs1.1 ht1 n (by omega) hlf
  have hs2 := hs1.keep k2
  have ht2 := ht1.keep k2
  have o2 := o1.keep k2
  repeat (first | with_reducible refine wbd (by assumption) ?_ | (with_reducible refine wbd (ldS (by assumption)) ?_) | dsimp only)
  refine wneq (fun e => ?_) (fun e => ?_)
  · repeat (first | with_reducible refine wT ?_ | with_reducible refine wrI ?_)
    exact W.ret ⟨by rw [w1 (by omega)], hs2, k1.kb.trans k2.kb⟩
  · obtain ⟨j1, j2⟩ := w2 (by omega)
    have hwo := win_open (t := t) j1 j2
    have e3 : ∀ h, CL g lf n fn_impl_exchanged [.int .i64 (t : Int)] h = some (.int .i64 ((3 - t : Nat) : Int), h) := fun h => exchanged_W g lf n (by omega) h hT
    repeat (first | with_reducible refine wF ?_ | (with_reducible refine wbd (fSt0 _) ?_) | (with_reducible refine wia30 ?_) | (with_reducible refine wbd (ld1 (by assumption) rfl) ?_))
    refine loopW (fun m' st => ∃ (r : Nat) (h3 : PHeap), st = impl_search_solved.st0 (.ptr s 0) (.ptr id 0) (.int .i64 (r : Int)) h3 ∧ r < 2 ^ 9 ∧ (∀ k, r.testBit k = true → f.testBit k = true) ∧ (∀ k, f.testBit k = true → r.testBit k = false → winN R C (putA t k a) (putB t k b) (3 - t) ≠ t) ∧
      At h3 id (stC f a b t) ∧ Sch R C h3 s m ∧ Tab64 g h3 ∧ KB m h2 h3 ∧ m' = r) ?_ lf f _ (by omega) ⟨f, h2, rfl, hf9, fun _ h => h, fun k h1 h2 => (by rw [h1] at h2; cases h2), o2, hs2, ht2, KB.refl _ _, rfl⟩
    rintro n1 m1 st ⟨r, h3, rfl, hr, hrf, hno, o3, hs3, ht3, k3, hm⟩ next
    rw [impl_search_solved.body0_eq]
    unfold impl_search_solved.body0
    simp only [env_C, env_load, env_bin, env_fieldAddr]
    by_cases e4 : r = 0
    · subst e4
      have e3' := e3 h3
      repeat (first | with_reducible refine wF ?_ | with_reducible refine wrI ?_ | with_reducible refine wbd (by assumption) ?_ | (with_reducible refine wbd (fSt1 _) ?_) | (with_reducible refine wbd (ld1 (by assumption) rfl) ?_) | with_reducible refine wneqF (by omega) ?_ | rw [kLoop_exit] | rw [impl_search_solved.after0_se0_0_3_6_17] | dsimp only | simp only [env_C, env_g, env_lf, env_pick, env_alloc, env_box, env_build, env_buildSlice, env_load, env_store, env_ptr, env_bin, env_un, env_conv, env_make, env_slice, env_fieldAddr, env_field, env_indexAddr, env_index, env_extract, env_len, env_append, env_max, env_min, env_makeMap, env_lookup, env_update])
      refine W.ret ⟨?_, hs3, (k1.kb.trans k2.kb).trans k3⟩
      have hmv : moveB R C a b t = false := by
        cases hh : moveB R C a b t with
        | false => rfl
        | true =>
          obtain ⟨k, c1, c2, c3⟩ := moveB_iff.1 hh
          exact absurd c3 (hno k ((hfree k).2 ⟨c1, c2⟩) (Nat.zero_testBit _))
      rw [hwo, hmv]; rfl
    · have el := leastIn_W g lf hr e4 hbig ht3 n (by omega)
      obtain ⟨c1, c2, c3, c4⟩ := low_ok hr e4
      obtain ⟨d1, d2⟩ := f_drop hr e4
      have hlt := without_less hr e4
      have hwl := without_lt9 (k := lowN r) hr
      obtain ⟨k, hk⟩ : ∃ k, k = lowN r := ⟨_, rfl⟩
      rw [← hk] at el c1 c2 d2 hlt hwl
      have hkf := hrf k c1
      have hfr' := fr_put' hst hkf
      have hst' := hst.put hkf
      repeat (first | with_reducible refine wT ?_ | with_reducible refine wck plain_int ?_ | with_reducible refine wbd (by assumption) ?_ | (with_reducible refine wbd (fSt1 _) ?_) | (with_reducible refine wbd (ld1 (by assumption) rfl) ?_) | (with_reducible refine wbd (ldS (by assumption)) ?_) | (with_reducible refine wck plainS ?_) | with_reducible refine wneqT (by omega) ?_ | dsimp only)
      refine wcall (after_W g lf hf9 l9.1 l9.2 c2 hT n (by omega) h3) fun v h4 ⟨hv, k4⟩ => ?_
      subst hv
      have o4 := o3.keep k4
      have hs4 := hs3.keep k4
      have ht4 := ht3.keep k4
      repeat (first | with_reducible refine wck plain_int ?_ | (with_reducible refine wbd (ld1 (by assumption) rfl) ?_) | (with_reducible refine wbd (ldS (by assumption)) ?_) | (with_reducible refine wck plainS ?_) | dsimp only)
      refine wcall (ih (B - 1) (by omega) _ _ _ _ n h4 (by omega) hst' (by omega) hs4 ht4) fun v h5 ⟨hv, hs5, k5⟩ => ?_
      subst hv
      have o5 := o4.kb k5 (hs4.ne o4)
      have ht5 := ht4.kb hs4 k5
      repeat (first | with_reducible refine wck plain_int ?_ | (with_reducible refine wbd (ld1 (by assumption) rfl) ?_) | (with_reducible refine wbd (ldS (by assumption)) ?_) | (with_reducible refine wck plainS ?_) | dsimp only)
      refine weql (fun e5 => ?_) (fun e5 => ?_)
      · repeat (first | with_reducible refine wT ?_ | with_reducible refine wrI ?_ | (with_reducible refine wbd (fSt1 _) ?_) | (with_reducible refine wbd (ld1 (by assumption) rfl) ?_) | rw [kLoop_ret] | rw [impl_search_solved.K0_ret] | rw [impl_search_solved.top_sr_4])
        refine W.ret ⟨?_, hs5, ((k1.kb.trans k2.kb).trans k3).trans (k4.kb.trans k5)⟩
        obtain ⟨q1, q2⟩ := (hfree k).1 hkf
        have hmv : moveB R C a b t = true := moveB_iff.2 ⟨k, q1, q2, by omega⟩
        rw [hwo, hmv]; rfl
      · repeat (first | with_reducible refine wF ?_ | with_reducible refine wbd (by assumption) ?_)
        refine next _ _ (hm ▸ hlt) ⟨_, h5, rfl, hwl, fun j hj => ?_, fun j hj1 hj2 => ?_, o5, hs5, ht5, k3.trans (k4.kb.trans k5), rfl⟩
        · rw [without_bit, Bool.and_eq_true] at hj; exact hrf j hj.1
        · by_cases hjk : j = k
          · subst hjk; omega
          · rw [without_bit] at hj2
            simp only [ne_eq, hjk, not_false_eq_true, decide_true, Bool.and_true] at hj2
            exact hno j hj1 hj2

theorem sWinner_W {R C s m : Nat} (hB : BoardOf R C) (hbig : Big g) (hlf : 1000 < lf) (B : Nat) : WinOk g lf R C s m B := by
  induction B using Nat.strongRecOn with
  | _ B ih =>
  intro f a b t N h hfr hst hN hs ht
  obtain ⟨n, rfl⟩ : ∃ n, N = n + 1 := ⟨N - 1, by omega⟩
  rw [impl_search_winner.call_eq]
  unfold impl_search_winner.main
  simp only [env_C, env_box, env_load, env_ptr, env_un, env_fieldAddr, env_extract, env_lookup, env_update]
  refine wboxS fun h1 id o1 k1 l1 => ?_
  have hs1 := hs.keep k1
  have ht1 := ht.keep k1
  obtain ⟨sa, es, ma, mm⟩ := _root_.id hs1
  have hlook := look_st hB ma mm hst
  repeat (first | with_reducible refine wptr ?_ | with_reducible refine wbd (by assumption) ?_ | (with_reducible refine wbd (fs3 _) ?_) | (with_reducible refine wbd (ldS (by assumption)) ?_) | (with_reducible refine wbd (ldM (by assumption) (srch_map _ _ _)) ?_) | dsimp only)
  cases hfd : findM es (stP f a b t) with
  | some v =>
    have hv := memo_find mm hfd
    subst hv
    refine wx0 ?_
    refine wx1 ?_
    repeat (first | with_reducible refine wF ?_ | with_reducible refine wnT ?_ | with_reducible refine wrI ?_)
    exact W.ret ⟨rfl, hs1, k1.kb⟩
  | none =>
    refine wx0 ?_
    refine wx1 ?_
    repeat (first | with_reducible refine wT ?_ | with_reducible refine wnF ?_ | (with_reducible refine wbd (ldS (by assumption)) ?_))
    refine wcall (solved_W g lf hB hbig hlf ih hfr hst n (by omega) hs1 ht1) fun v h2 ⟨hv, hs2, k2⟩ => ?_
    subst hv
    have o2 := o1.kb k2 (hs1.ne o1)
    obtain ⟨sa2, es2, ma2, mm2⟩ := _root_.id hs2
    repeat (first | with_reducible refine wptr ?_ | (with_reducible refine wbd (fs3 _) ?_) | (with_reducible refine wbd (ldS (by assumption)) ?_) | (with_reducible refine wbd (ldM (by assumption) (srch_map _ _ _)) ?_) | dsimp only)
    refine wbd (upd_st hB ma2 mm2 hst _) ?_
    have ma3 : MapAt (h2.set m (.mp (putM es2 (stP f a b t) (.int .i64 (winN R C a b t : Int))))) m (putM es2 (stP f a b t) (.int .i64 (winN R C a b t : Int))) := by
      unfold MapAt; rw [List.getElem?_set_self ma2.lt]
    have k3 : KB m h2 (h2.set m (.mp (putM es2 (stP f a b t) (.int .i64 (winN R C a b t : Int))))) := ⟨by simp, fun i _ hn => List.getElem?_set_ne (by omega)⟩
    generalize h2.set m (.mp (putM es2 (stP f a b t) (.int .i64 (winN R C a b t : Int)))) = h3 at ma3 k3 ⊢
    have sa3 := sa2.kb k3 (sa2.ne ma2)
    repeat (first | with_reducible refine wrI ?_ | with_reducible refine wck plain_map ?_ | (with_reducible refine wbd (ldM (by assumption) (srch_map _ _ _)) ?_))
    exact W.ret ⟨rfl, ⟨sa3, _, ma3, memo_put hst mm2⟩, (k1.kb.trans k2).trans k3⟩

end Go.Proofs.YtmhflbomploidaaDoor

/- The program's search: made for a board, begun at a position; the moves by which one wins. -/
set_option maxRecDepth 20000
namespace Go.Proofs.YtmhflbomploidaaDoor
open Go Go.Ip G

variable (g : Nat → PV) (lf n : Nat)

/-! ### a search is made -/
def slotV (R C i p j : Nat) : Nat :=
  if j < 9 then (if j < i then nearV R C j else 0) else if j = 10 ∧ 2 ≤ p then sideN R C 1 false else if j = 11 ∧ 3 ≤ p then sideN R C 2 false else if j = 13 ∧ 2 ≤ p then sideN R C 1 true else if j = 14 ∧ 3 ≤ p then sideN R C 2 true else 0
def fillC (R C m i p : Nat) : List PV := ((List.range 15).map (slotV R C i p)).map (fun x : Nat => .int .i64 (x : Int)) ++ [.mapv m]
theorem fillC_length (R C m i p : Nat) : (fillC R C m i p).length = 16 := by simp [fillC]
theorem fill_done (R C m : Nat) : fillC R C m (R * C) 3 = srchC R C m := by
  have hn : ∀ j ∈ List.range 9, slotV R C (R * C) 3 j = nearV R C j := fun j hj => by
    have hj := List.mem_range.1 hj
    unfold slotV nearV
    rw [if_pos hj]
    by_cases h : j < R * C <;> simp [h]
  unfold fillC srchC srchV
  rw [show List.range 15 = List.range 9 ++ [9, 10, 11, 12, 13, 14] from rfl, List.map_append, List.map_congr_left hn]
  rfl
theorem fill_near {R C m i p : Nat} (hi : i < 9) : (fillC R C m i p).set (0 + i) (.int .i64 (nearV R C i : Int)) = fillC R C m (i + 1) p := by
  unfold fillC
  rw [Nat.zero_add, List.set_append_left _ _ (by simp; omega), ← List.map_set]
  congr 2
  apply List.ext_getElem (by simp)
  intro j h1 h2
  simp only [List.getElem_set, List.getElem_map, List.getElem_range]
  unfold slotV
  by_cases e : i = j
  · subst e; rw [if_pos rfl, if_pos hi, if_pos (by omega)]
  · rw [if_neg e]
    by_cases h9 : j < 9
    · rw [if_pos h9, if_pos h9]
      by_cases h : j < i
      · rw [if_pos h, if_pos (by omega)]
      · rw [if_neg h, if_neg (by omega)]
    · rw [if_neg h9, if_neg h9]
theorem fill_one (R C m i : Nat) : ((fillC R C m i 1).set (9 + 1) (.int .i64 (sideN R C 1 false : Int))).set (12 + 1) (.int .i64 (sideN R C 1 true : Int)) = fillC R C m i 2 := by rfl
theorem fill_two (R C m i : Nat) : ((fillC R C m i 2).set (9 + 2) (.int .i64 (sideN R C 2 false : Int))).set (12 + 2) (.int .i64 (sideN R C 2 true : Int)) = fillC R C m i 3 := by rfl
theorem bldS (m : Nat) : buildP Tryd.prog 77 [(3, .mapv m)] = some (.agg (fillC 1 1 m 0 1)) := by kernel_rfl
theorem fill_zero (R C m : Nat) : fillC 1 1 m 0 1 = fillC R C m 0 1 := by
  unfold fillC
  congr 2

theorem wmkM {Q : PV → PHeap → Prop} {h : PHeap} {F : PV × PHeap → Res} (hf : ∀ h' m, MapAt h' m [] → Keep h.length h h' → h.length ≤ m → W (F (.mapv m, h')) Q) : W ((makeMapP none h).bind F) Q :=
  hf _ _ (by unfold MapAt; simp) (Keep.append _ _ _ (Nat.le_refl _)) (Nat.le_refl _)

theorem newSearch_W {R C : Nat} (hB : BoardOf R C) (N : Nat) (hN : 7 ≤ N) (hlf : 1000 < lf) {h : PHeap} (ht : Tab g h) :
    W (CL g lf N fn_impl_newSearch [.int .i64 (R : Int), .int .i64 (C : Int)] h) fun v h' => ∃ s m, v = .ptr s 0 ∧ Sch R C h' s m ∧ Keep h.length h h' ∧ h.length ≤ s ∧ h.length ≤ m := by
  obtain ⟨n, rfl⟩ : ∃ n, N = n + 1 := ⟨N - 1, by omega⟩
  obtain ⟨b1, b2, b3, b4, h9⟩ := id hB
  rw [impl_newSearch.call_eq]
  unfold impl_newSearch.main
  simp only [env_lf, env_box, env_build, env_bin, env_makeMap]
  refine wmkM fun h1 m ma k1 lm => ?_
  refine wbd (bldS m) ?_
  refine wnew (l := fillC 1 1 m 0 1) (by rfl) fun h2 s o2 k2 ls => ?_
  dsimp only at k2 ls ⊢
  rw [fill_zero R C] at o2
  have ma2 := ma.keep k2
  have kk := k1.trans (k2.mono k1.1)
  have lss : h.length ≤ s := Nat.le_trans k1.1 ls
  have hRC : R * C < 4611686018427387904 := by omega
  repeat (first | with_reducible refine wmulN (by omega) ?_)
  refine loopW (fun m' st => ∃ (i : Nat) (h3 : PHeap), st = impl_newSearch.st0 (.int .i64 (R : Int)) (.int .i64 (C : Int)) (.ptr s 0) (.int .i64 ((R * C : Nat) : Int)) (.int .i64 (i : Int)) h3 ∧ i + m' = R * C ∧ At h3 s (fillC R C m i 1) ∧ MapAt h3 m [] ∧ Keep h.length h h3) ?_ lf (R * C) _ (by omega) ⟨0, h2, rfl, by omega, o2, ma2, kk⟩
  rintro n1 m1 st ⟨i, h3, rfl, him, o3, ma3, k3⟩ next
  rw [impl_newSearch.body0_eq]
  unfold impl_newSearch.body0
  simp only [env_C, env_store, env_ptr, env_bin, env_fieldAddr, env_indexAddr]
  cases m1 with
  | succ m1 =>
    have hi : i < 9 := by omega
    have hsl := shl_lt hi
    have hnv : wideN R C (1 <<< i) = nearV R C i := by unfold nearV; rw [if_pos (by omega)]
    obtain ⟨h4, e4, k4⟩ := withNear_calls g lf b1 b2 b3 b4 h9 hsl n (by omega) (by omega) (ht.keep k3)
    have o4 := o3.keep k4
    rw [hnv] at e4
    repeat (first | with_reducible refine wT ?_ | with_reducible refine wptr ?_ | with_reducible refine wbd (by assumption) ?_ | (with_reducible refine wbd (fs0 _) ?_) | (with_reducible refine wia9 hi ?_) | with_reducible refine wshl (by omega) ?_ | with_reducible refine wlssT (by omega) ?_ | dsimp only)
    refine wst1 o4 (by rw [fillC_length]; omega) fun h5 o5 k5 => ?_
    rw [fill_near hi] at o5
    have ma5 := (ma3.keep k4).kb k5 (o4.ne (ma3.keep k4)).symm
    repeat (first | with_reducible refine wadd1 (by omega) ?_)
    exact next _ _ (Nat.lt_succ_self m1) ⟨i + 1, h5, rfl, by omega, o5, ma5, (k3.trans (k4.mono k3.1)).kbs (Nat.le_refl _) k5 lss⟩
  | zero =>
    have hiR : i = R * C := by omega
    subst hiR
    repeat (first | with_reducible refine wF ?_ | with_reducible refine wlssF (by omega) ?_ | rw [kLoop_exit] | rw [impl_newSearch.after0_se0_0_1_5_13_14_15] | simp only [env_C, env_g, env_lf, env_pick, env_alloc, env_box, env_build, env_buildSlice, env_load, env_store, env_ptr, env_bin, env_un, env_conv, env_make, env_slice, env_fieldAddr, env_field, env_indexAddr, env_index, env_extract, env_len, env_append, env_max, env_min, env_makeMap, env_lookup, env_update])
    refine loopW (fun m' st => ∃ (P : Nat) (h4 : PHeap), st = impl_newSearch.st1 (.int .i64 (R : Int)) (.int .i64 (C : Int)) (.ptr s 0) (.int .i64 (P : Int)) h4 ∧ P + m' = 3 ∧ 1 ≤ P ∧ At h4 s (fillC R C m (R * C) P) ∧ MapAt h4 m [] ∧ Keep h.length h h4) ?_ lf 2 _ (by omega) ⟨1, h3, rfl, rfl, by decide, o3, ma3, k3⟩
    rintro n2 m2 st ⟨P, h4, rfl, hPm, hP1, o4, ma4, k4⟩ next2
    have hP : P = 1 ∨ P = 2 ∨ P = 3 := by omega
    have e1 := fun h => sidesOf_W g lf hB (P := 1) (.inl rfl) n (by omega) hlf h
    have e2 := fun h => sidesOf_W g lf hB (P := 2) (.inr rfl) n (by omega) hlf h
    rw [impl_newSearch.body1_eq]
    unfold impl_newSearch.body1
    simp only [env_C, env_store, env_ptr, env_bin, env_fieldAddr, env_indexAddr, env_extract]
    rcases hP with rfl | rfl | rfl
    · have e1' := e1 h4
      repeat (first | with_reducible refine wT ?_ | with_reducible refine wx0 ?_ | with_reducible refine wx1 ?_ | with_reducible refine wptr ?_ | with_reducible refine wbd (by assumption) ?_ | (with_reducible refine wbd (fs1 _) ?_) | (with_reducible refine wbd (fs2 _) ?_) | (with_reducible refine wia3 (by omega) ?_) | with_reducible refine wleqT (by omega) ?_ | dsimp only)
      refine wst1 o4 (by rw [fillC_length]; decide) fun h5 o5 k5 => ?_
      repeat (first | (with_reducible refine wia3 (by omega) ?_))
      refine wst1 o5 (by rw [List.length_set, fillC_length]; decide) fun h6 o6 k6 => ?_
      rw [fill_one] at o6
      repeat (first | with_reducible refine wadd1 (by omega) ?_)
      exact next2 _ _ (show 1 < m2 by omega) ⟨2, h6, rfl, rfl, by decide, o6, (ma4.kb k5 (o4.ne ma4).symm).kb k6 (o4.ne ma4).symm, (k4.kbs (Nat.le_refl _) k5 lss).kbs (Nat.le_refl _) k6 lss⟩
    · have e2' := e2 h4
      repeat (first | with_reducible refine wT ?_ | with_reducible refine wx0 ?_ | with_reducible refine wx1 ?_ | with_reducible refine wptr ?_ | with_reducible refine wbd (by assumption) ?_ | (with_reducible refine wbd (fs1 _) ?_) | (with_reducible refine wbd (fs2 _) ?_) | (with_reducible refine wia3 (by omega) ?_) | with_reducible refine wleqT (by omega) ?_ | dsimp only)
      refine wst1 o4 (by rw [fillC_length]; decide) fun h5 o5 k5 => ?_
      repeat (first | (with_reducible refine wia3 (by omega) ?_))
      refine wst1 o5 (by rw [List.length_set, fillC_length]; decide) fun h6 o6 k6 => ?_
      rw [fill_two] at o6
      repeat (first | with_reducible refine wadd1 (by omega) ?_)
      exact next2 _ _ (show 0 < m2 by omega) ⟨3, h6, rfl, rfl, by decide, o6, (ma4.kb k5 (o4.ne ma4).symm).kb k6 (o4.ne ma4).symm, (k4.kbs (Nat.le_refl _) k5 lss).kbs (Nat.le_refl _) k6 lss⟩
    · repeat (first | with_reducible refine wF ?_ | with_reducible refine wrP ?_ | with_reducible refine wleqF (by omega) ?_ | rw [kLoop_exit] | rw [impl_newSearch.after1_se2_0_1_5_7_29])
      rw [fill_done] at o4
      exact W.ret ⟨s, m, rfl, ⟨o4, [], ma4, fun p hp => by cases hp⟩, k4, lss, Nat.le_trans (Nat.le_refl _) lm⟩

/-! ### where it begins -/
theorem bldSt (t : Nat) : buildP Tryd.prog 58 [(1, .int .i64 (t : Int))] = some (stP 0 0 0 t) := by kernel_rfl
theorem standingOf_W {xs : List Int} {p : PV} {h : PHeap} (hp : IntSl .i64 h p xs) (hl : xs.length ≤ 20) (t : Nat) (N : Nat) (hN : 2 ≤ N) (hlf : 1000 < lf) :
    W (CL g lf N fn_impl_standingOf [p, .int .i64 (t : Int)] h) fun v h' => v = stP (setL xs 0) (setL xs 1) (setL xs 2) t ∧ Keep h.length h h' := by
  obtain ⟨n, rfl⟩ : ∃ n, N = n + 1 := ⟨N - 1, by omega⟩
  rw [impl_standingOf.call_eq]
  unfold impl_standingOf.main
  simp only [env_lf, env_alloc, env_build, env_store]
  refine walS fun h1 id1 o1 k1 l1 => ?_
  refine wbd (bldSt t) ?_
  dsimp only
  refine walS fun h2 id2 o2 k2 l2 => ?_
  dsimp only
  have o1' := o1.keep k2
  have hne : id1 ≠ id2 := by have := o1.lt; omega
  refine wstS o2 fun h3 o3 k3 => ?_
  have o13 := o1'.kb k3 hne
  have kk : Keep h.length h h3 := (k1.trans (k2.mono k1.1)).kbs (Nat.le_refl _) k3 (Nat.le_trans k1.1 l2)
  have ll2 : h.length ≤ id2 := Nat.le_trans k1.1 l2
  refine loopW (fun m' st => ∃ (P u v w : Nat) (h4 : PHeap), st = impl_standingOf.st0 p (.ptr id1 0) (.ptr id2 0) (.int .i64 (P : Int)) h4 ∧ P + m' = 3 ∧ At h4 id2 (stC u v w t) ∧ At h4 id1 (stC 0 0 0 0) ∧ Keep h.length h h4 ∧ (1 ≤ P → u = setL xs 0) ∧ (2 ≤ P → v = setL xs 1) ∧ (3 ≤ P → w = setL xs 2)) ?_ lf 3 _ (by omega) ⟨0, 0, 0, 0, h3, rfl, rfl, o3, o13, kk, by omega, by omega, by omega⟩
  rintro n1 m1 st ⟨P, u, v, w, h4, rfl, hPm, o4, o14, k4, hu, hv, hw⟩ next
  have hP : P = 0 ∨ P = 1 ∨ P = 2 ∨ P = 3 := by omega
  have hp4 := hp.keep k4
  have e0 := setOf_W g lf ((0 : Nat) : Int) hp4 hl n (by omega) hlf
  have e1 := setOf_W g lf ((1 : Nat) : Int) hp4 hl n (by omega) hlf
  have e2 := setOf_W g lf ((2 : Nat) : Int) hp4 hl n (by omega) hlf
  rw [impl_standingOf.body0_eq]
  unfold impl_standingOf.body0
  simp only [env_C, env_store, env_bin, env_fieldAddr, env_indexAddr]
  rcases hP with rfl | rfl | rfl | rfl
  · repeat (first | with_reducible refine wT ?_ | with_reducible refine wbd (by assumption) ?_ | (with_reducible refine wbd (fSt0 _) ?_) | (with_reducible refine wia3 (by omega) ?_) | with_reducible refine wlssT (by omega) ?_ | dsimp only)
    refine wst1 o4 (show 0 + 0 < 4 by decide) fun h5 o5 k5 => ?_
    repeat (first | with_reducible refine wadd1 (by omega) ?_)
    exact next _ _ (show 2 < m1 by omega) ⟨1, setL xs 0, v, w, h5, rfl, rfl, o5, o14.kb k5 hne, k4.kbs (Nat.le_refl _) k5 ll2, fun _ => rfl, by omega, by omega⟩
  · repeat (first | with_reducible refine wT ?_ | with_reducible refine wbd (by assumption) ?_ | (with_reducible refine wbd (fSt0 _) ?_) | (with_reducible refine wia3 (by omega) ?_) | with_reducible refine wlssT (by omega) ?_ | dsimp only)
    refine wst1 o4 (show 0 + 1 < 4 by decide) fun h5 o5 k5 => ?_
    repeat (first | with_reducible refine wadd1 (by omega) ?_)
    exact next _ _ (show 1 < m1 by omega) ⟨2, u, setL xs 1, w, h5, rfl, rfl, o5, o14.kb k5 hne, k4.kbs (Nat.le_refl _) k5 ll2, fun _ => hu (by decide), fun _ => rfl, by omega⟩
  · repeat (first | with_reducible refine wT ?_ | with_reducible refine wbd (by assumption) ?_ | (with_reducible refine wbd (fSt0 _) ?_) | (with_reducible refine wia3 (by omega) ?_) | with_reducible refine wlssT (by omega) ?_ | dsimp only)
    refine wst1 o4 (show 0 + 2 < 4 by decide) fun h5 o5 k5 => ?_
    repeat (first | with_reducible refine wadd1 (by omega) ?_)
    exact next _ _ (show 0 < m1 by omega) ⟨3, u, v, setL xs 2, h5, rfl, rfl, o5, o14.kb k5 hne, k4.kbs (Nat.le_refl _) k5 ll2, fun _ => hu (by decide), fun _ => hv (by decide), fun _ => rfl⟩
  · repeat (first | with_reducible refine wF ?_ | (with_reducible refine wbd (ldS (by assumption)) ?_) | with_reducible refine wlssF (by omega) ?_ | rw [kLoop_exit] | rw [impl_standingOf.after0_se0_0_4_5_9_10] | simp only [env_C, env_g, env_lf, env_pick, env_alloc, env_box, env_build, env_buildSlice, env_load, env_store, env_ptr, env_bin, env_un, env_conv, env_make, env_slice, env_fieldAddr, env_field, env_indexAddr, env_index, env_extract, env_len, env_append, env_max, env_min, env_makeMap, env_lookup, env_update])
    refine wstS o14 fun h5 o5 k5 => ?_
    repeat (first | (with_reducible refine wbd (ldS (by assumption)) ?_))
    exact W.ret ⟨by rw [hu (by decide), hv (by decide), hw (by decide)], k4.kbs (Nat.le_refl _) k5 l1⟩

theorem stands_of {R C T : Nat} {xs : List Int} (hS : Sides (R : Int) (C : Int) R C xs) (hT : T = 1 ∨ T = 2) : Stands R C (setL xs 0) (setL xs 1) (setL xs 2) T := by
  refine ⟨pos_sets hS, set_lt9 hS 0, fun k => ?_, hT⟩
  rw [setL_bit]
  constructor
  · intro hk
    have hkl := set_in hS (setL_bit.2 hk)
    exact ⟨hkl, (free_bit hS hkl).2 hk⟩
  · rintro ⟨h1, h2⟩; exact (free_bit hS h1).1 h2

end Go.Proofs.YtmhflbomploidaaDoor

/- The program's chapter 3: MoveOk, Played, WinnerOf, WinningCells and LinePlayed compute what the model's do. -/
set_option maxRecDepth 20000
namespace Go.Proofs.YtmhflbomploidaaDoor
open Go Go.Ip G

variable (g : Nat → PV) (lf n : Nat)

/-! ### moves -/
/-! ### who wins -/
/-! ### a line -/
/-- A list of integers at an object of its own. -/
def SlAt (i : Nat) (h : PHeap) (p : PV) (ys : List Int) : Prop := (p = .nilsl ∧ ys = []) ∨ (p = .sl i 0 ys.length ∧ At h i (ys.map (.int .i64)))
theorem SlAt.keep {i : Nat} {h h' : PHeap} {p : PV} {ys : List Int} (s : SlAt i h p ys) (k : Keep h.length h h') : SlAt i h' p ys := by
  rcases s with s | ⟨a, b⟩
  · exact .inl s
  · exact .inr ⟨a, b.keep k⟩
theorem SlAt.kb {i m : Nat} {h h' : PHeap} {p : PV} {ys : List Int} (s : SlAt i h p ys) (k : KB m h h') (hn : i ≠ m) : SlAt i h' p ys := by
  rcases s with s | ⟨a, b⟩
  · exact .inl s
  · exact .inr ⟨a, b.kb k hn⟩
theorem SlAt.own {i n : Nat} {h : PHeap} {p : PV} {ys : List Int} (s : SlAt i h p ys) (hn : n ≤ i) : OwnSl n h p ys := by
  rcases s with s | ⟨a, b⟩
  · exact .inl s
  · exact .inr ⟨i, hn, a, b⟩
end Go.Proofs.YtmhflbomploidaaDoor

/- The program's chapter 5: all fillings of the free cells one after another, those that are won, those that a stone decides, and the cells that do not matter. -/
set_option maxRecDepth 20000
namespace Go.Proofs.YtmhflbomploidaaDoor
open Go Go.Ip G

section
variable {Q : PV → PHeap → Prop} {f : PV → Res} {h : PHeap}
end

variable (g : Nat → PV) (lf n : Nat)

/-! ### fillings that are won -/
/-! ### fillings that a stone decides -/
/-! ### cells that do not matter -/
end Go.Proofs.YtmhflbomploidaaDoor

/- The library's stable sort, whole; and all parts of a set by size. -/
set_option maxRecDepth 20000
namespace Go.Proofs.YtmhflbomploidaaDoor
open Go Go.Ip G

section
variable (g : Nat → PV) (lf : Nat) {f : FuncId} {ok : Int → Prop} {kf cf : Int → Nat} (hcmp : CmpOk g lf f ok cf) (hlf : 1000 < lf)
include hcmp hlf

end

/-! ### how many cells a set has -/
end Go.Proofs.YtmhflbomploidaaDoor

/- The program's chapter 6: sets that are enough, the least of them, bridges, and cells that must be taken. -/
set_option maxRecDepth 20000
namespace Go.Proofs.YtmhflbomploidaaDoor
open Go Go.Ip G

/-- What stands with stones of the other player on all free cells outside of a set. -/
theorem given_sets {xs : List Int} {P : Nat} (hP : P = 1 ∨ P = 2) (S : Nat) : setL (givenL xs (P : Int) S) 0 = setL xs 0 &&& S ∧ setL (givenL xs (P : Int) S) (P : Int) = setL xs (P : Int) ∧ setL (givenL xs (P : Int) S) (3 - (P : Int)) = setL xs (3 - (P : Int)) ||| minusN (setL xs 0) S := by
  refine ⟨Nat.eq_of_testBit_eq fun j => ?_, Nat.eq_of_testBit_eq fun j => ?_, Nat.eq_of_testBit_eq fun j => ?_⟩
  · rw [Bool.eq_iff_iff, setL_bit, given_free hP, Nat.testBit_and, Bool.and_eq_true, setL_bit]
  · rw [Bool.eq_iff_iff, setL_bit, given_own hP, setL_bit]
  · rw [Bool.eq_iff_iff, setL_bit, given_other hP, Nat.testBit_or, Bool.or_eq_true, minusN_bit, Bool.and_eq_true, setL_bit, setL_bit]
    cases S.testBit j <;> simp
theorem KB.of {n m : Nat} {h h' : PHeap} (k : Keep n h h') (hn : h.length ≤ n) : KB m h h' := ⟨k.1, fun i hi _ => k.2 i (by omega)⟩

theorem Tab.at {g : Nat → PV} {id : Nat} {l : List PV} {h h' : PHeap} (t : Tab g h) (a : At h id l) (k : KB id h h') : Tab g h' := by
  obtain ⟨i, e, ho⟩ := t
  exact ⟨i, e, by rw [k.2 i (List.getElem?_eq_some_iff.1 ho).1 (fun e => by subst e; unfold At at a; rw [ho] at a; cases a)]; exact ho⟩
theorem Tab64.at {g : Nat → PV} {id : Nat} {l : List PV} {h h' : PHeap} (t : Tab64 g h) (a : At h id l) (k : KB id h h') : Tab64 g h' := fun i e => by
  have ho := t i e
  rw [k.2 i (List.getElem?_eq_some_iff.1 ho).1 (fun e => by subst e; unfold At at a; rw [ho] at a; cases a)]; exact ho
theorem wmulZ {Q : PV → PHeap → Prop} {P : Program} {t : TypeId} {x y z : Nat} {f : PV → Res} (hz : z = x * y) (h : z < 4611686018427387904) (hf : W (f (.int .i64 (z : Int))) Q) : W ((binP P .mul t (.int .i64 (x : Int)) (.int .i64 (y : Int))).bind f) Q := by
  subst hz; exact wmulN h hf

variable (g : Nat → PV) (lf n : Nat)

theorem filled_W {xs : List Int} {P : Nat} (hP : P = 1 ∨ P = 2) (hx : ∀ w, setL xs w < 2 ^ 9) {S T : Nat} (hS9 : S < 2 ^ 9) (N : Nat) (hN : 1 ≤ N) (h : PHeap) :
    W (CL g lf N fn_impl_standing_filledOutside [stP (setL xs 0) (setL xs 1) (setL xs 2) T, .int .i64 (S : Int), .int .i64 ((3 - P : Nat) : Int)] h) fun v h' =>
      v = stP (setL (givenL xs (P : Int) S) 0) (setL (givenL xs (P : Int) S) 1) (setL (givenL xs (P : Int) S) 2) T ∧ Keep h.length h h' := by
  obtain ⟨n, rfl⟩ : ∃ n, N = n + 1 := ⟨N - 1, by omega⟩
  obtain ⟨e1, e2, e3⟩ := given_sets (xs := xs) hP S
  have hf := hx 0
  have ha := hx 1
  have hb := hx 2
  have hm : minusN (setL xs 0) S < 2 ^ 9 := minusN_lt hf
  obtain ⟨F, hF⟩ : ∃ F, F = setL xs 0 := ⟨_, rfl⟩
  obtain ⟨A, hA⟩ : ∃ A, A = setL xs 1 := ⟨_, rfl⟩
  obtain ⟨B, hB⟩ : ∃ B, B = setL xs 2 := ⟨_, rfl⟩
  rcases hP with rfl | rfl
  · rw [show ((3 : Int) - ((1 : Nat) : Int)) = 2 from rfl] at e3
    rw [show (((1 : Nat) : Int)) = (1 : Int) from rfl] at e1 e2 e3
    rw [show (((1 : Nat) : Int)) = (1 : Int) from rfl, e1, e2, e3]
    rw [← hF] at hf hm ⊢
    rw [← hA] at ha ⊢
    rw [← hB] at hb ⊢
    clear e1 e2 e3
    rw [impl_standing_filledOutside.call_eq]
    unfold impl_standing_filledOutside.main
    simp only [env_alloc, env_box, env_load, env_store, env_bin, env_fieldAddr, env_indexAddr]
    refine wboxS fun h1 id o1 k1 l1 => ?_
    dsimp only
    refine walS fun h2 id2 o2 k2 l2 => ?_
    have o1' := o1.keep k2
    have hne : id2 ≠ id := by have := o1.lt; omega
    have kk2 : Keep h.length h h2 := k1.trans (k2.mono k1.1)
    repeat (first | (with_reducible refine wbd (fSt0 _) ?_) | (with_reducible refine wia30 ?_) | (with_reducible refine wia3 (by omega) ?_) | (with_reducible refine wbd (ld1 (by assumption) rfl) ?_) | with_reducible refine wor (by omega) (by omega) ?_ | with_reducible refine wandNot (by omega) (by omega) ?_ | dsimp only)
    refine wst1 o1' (show 0 + 2 < 4 by decide) fun h3 o3 k3 => ?_
    have o3 : At h3 id (stC F A (B ||| minusN F S) T) := o3
    have o23 := o2.kb k3 hne
    repeat (first | (with_reducible refine wbd (fSt0 _) ?_) | (with_reducible refine wia30 ?_) | (with_reducible refine wbd (ld1 (by assumption) rfl) ?_) | with_reducible refine wand (by omega) (by omega) ?_)
    refine wst1 o3 (show 0 + 0 < 4 by decide) fun h4 o4 k4 => ?_
    have o4 : At h4 id (stC (F &&& S) A (B ||| minusN F S) T) := o4
    have o24 := o23.kb k4 hne
    repeat (first | (with_reducible refine wbd (ldS (by assumption)) ?_))
    refine wstS o24 fun h6 o6 k6 => ?_
    repeat (first | (with_reducible refine wbd (ldS (by assumption)) ?_))
    exact W.ret ⟨rfl, ((kk2.kbs (Nat.le_refl _) k3 l1).kbs (Nat.le_refl _) k4 l1).kbs (Nat.le_refl _) k6 (Nat.le_trans k1.1 l2)⟩
  · rw [show ((3 : Int) - ((2 : Nat) : Int)) = 1 from rfl] at e3
    rw [show (((2 : Nat) : Int)) = (2 : Int) from rfl] at e1 e2 e3
    rw [show (((2 : Nat) : Int)) = (2 : Int) from rfl, e1, e2, e3]
    rw [← hF] at hf hm ⊢
    rw [← hA] at ha ⊢
    rw [← hB] at hb ⊢
    clear e1 e2 e3
    rw [impl_standing_filledOutside.call_eq]
    unfold impl_standing_filledOutside.main
    simp only [env_alloc, env_box, env_load, env_store, env_bin, env_fieldAddr, env_indexAddr]
    refine wboxS fun h1 id o1 k1 l1 => ?_
    dsimp only
    refine walS fun h2 id2 o2 k2 l2 => ?_
    have o1' := o1.keep k2
    have hne : id2 ≠ id := by have := o1.lt; omega
    have kk2 : Keep h.length h h2 := k1.trans (k2.mono k1.1)
    repeat (first | (with_reducible refine wbd (fSt0 _) ?_) | (with_reducible refine wia30 ?_) | (with_reducible refine wia3 (by omega) ?_) | (with_reducible refine wbd (ld1 (by assumption) rfl) ?_) | with_reducible refine wor (by omega) (by omega) ?_ | with_reducible refine wandNot (by omega) (by omega) ?_ | dsimp only)
    refine wst1 o1' (show 0 + 1 < 4 by decide) fun h3 o3 k3 => ?_
    have o3 : At h3 id (stC F (A ||| minusN F S) B T) := o3
    have o23 := o2.kb k3 hne
    repeat (first | (with_reducible refine wbd (fSt0 _) ?_) | (with_reducible refine wia30 ?_) | (with_reducible refine wbd (ld1 (by assumption) rfl) ?_) | with_reducible refine wand (by omega) (by omega) ?_)
    refine wst1 o3 (show 0 + 0 < 4 by decide) fun h4 o4 k4 => ?_
    have o4 : At h4 id (stC (F &&& S) (A ||| minusN F S) B T) := o4
    have o24 := o23.kb k4 hne
    repeat (first | (with_reducible refine wbd (ldS (by assumption)) ?_))
    refine wstS o24 fun h6 o6 k6 => ?_
    repeat (first | (with_reducible refine wbd (ldS (by assumption)) ?_))
    exact W.ret ⟨rfl, ((kk2.kbs (Nat.le_refl _) k3 l1).kbs (Nat.le_refl _) k4 l1).kbs (Nat.le_refl _) k6 (Nat.le_trans k1.1 l2)⟩

theorem winsWith_W {R C P T s m S : Nat} {xs : List Int} (hb : posB (R : Int) (C : Int) xs = true) (hbig : Big g) (hlf : 1000 < lf) (hP : P = 1 ∨ P = 2) (hT : T = 1 ∨ T = 2) (hS9 : S < 2 ^ 9) (N : Nat) (hN : 28 ≤ N) {h : PHeap} (hs : Sch R C h s m) (ht : Tab64 g h) :
    W (CL g lf N fn_impl_search_winsWith [.ptr s 0, stP (setL xs 0) (setL xs 1) (setL xs 2) T, .int .i64 (P : Int), .int .i64 (S : Int)] h) fun v h' => v = .bool (decide (winL (R : Int) (C : Int) (givenL xs (P : Int) S) (T : Int) = (P : Int))) ∧ Sch R C h' s m ∧ KB m h h' := by
  obtain ⟨n, rfl⟩ : ∃ n, N = n + 1 := ⟨N - 1, by omega⟩
  have hS := sides_pos hb
  have hB := board_of_sides hS
  have hb' := given_pos hP S hb
  have hS' := sides_pos hb'
  have h9 := hB.2.2.2.2
  have ex : ∀ h, CL g lf n fn_impl_exchanged [.int .i64 (P : Int)] h = some (.int .i64 ((3 - P : Nat) : Int), h) := fun h => exchanged_W g lf n (by omega) h hP
  rw [impl_search_winsWith.call_eq]
  unfold impl_search_winsWith.main
  simp only [env_C, env_box, env_load, env_bin]
  refine wboxS fun h1 id o1 k1 l1 => ?_
  have ex1 := ex h1
  repeat (first | with_reducible refine wbd (by assumption) ?_ | (with_reducible refine wbd (ldS (by assumption)) ?_) | (with_reducible refine wck plainS ?_) | dsimp only)
  refine wcall (filled_W g lf hP (fun w => set_lt9 hS w) hS9 n (by omega) h1) fun v h2 ⟨hv, k2⟩ => ?_
  subst hv
  have o2 := o1.keep k2
  have hs2 := (hs.keep k1).keep k2
  repeat (first | (with_reducible refine wbd (ldS (by assumption)) ?_) | (with_reducible refine wck plainS ?_) | dsimp only)
  refine wcall (sWinner_W g lf hB hbig hlf 9 _ _ _ _ n h2 (Nat.le_trans (fr_le _ _ _) h9) (stands_of hS' hT) (by omega) hs2 ((ht.keep k1).keep k2)) fun v h3 ⟨hv, hs3, k3⟩ => ?_
  subst hv
  have hml := hs.lt
  have o3 := o2.kb k3 (by omega)
  have kk : KB m h h3 := (Keep.kb (k1.trans (k2.mono k1.1))).trans k3
  rw [winL_eq hb' hT]
  by_cases hw : ((winN R C (setL (givenL xs (P : Int) S) 1) (setL (givenL xs (P : Int) S) 2) T : Nat) : Int) = (P : Int)
  · rw [decide_eq_true hw]
    repeat (first | with_reducible refine wrB ?_ | (with_reducible refine wbd (ldS (by assumption)) ?_) | (with_reducible refine wck plainS ?_) | with_reducible refine weqlT (by omega) ?_ | dsimp only)
    exact W.ret ⟨rfl, hs3, kk⟩
  · rw [decide_eq_false hw]
    repeat (first | with_reducible refine wrB ?_ | (with_reducible refine wbd (ldS (by assumption)) ?_) | (with_reducible refine wck plainS ?_) | with_reducible refine weqlF (by omega) ?_ | dsimp only)
    exact W.ret ⟨rfl, hs3, kk⟩

/-- A set of cells of a board. -/
theorem setOk_W {R C : Nat} (hB : BoardOf R C) (N : Nat) (hN : 1 ≤ N) (h : PHeap) (S : Int) :
    CL g lf N fn_impl_setOk [.int .i64 (R : Int), .int .i64 (C : Int), .int .i64 S] h = some (.bool (decide (0 ≤ S ∧ S < ((2 ^ (R * C) : Nat) : Int))), h) := by
  obtain ⟨n, rfl⟩ : ∃ n, N = n + 1 := ⟨N - 1, by omega⟩
  obtain ⟨b1, b2, b3, b4, h9⟩ := id hB
  have : W (CL g lf (n + 1) fn_impl_setOk [.int .i64 (R : Int), .int .i64 (C : Int), .int .i64 S] h) fun v h' => v = .bool (decide (0 ≤ S ∧ S < ((2 ^ (R * C) : Nat) : Int))) ∧ h' = h := by
    rw [impl_setOk.call_eq]
    unfold impl_setOk.main
    simp only [env_pick, env_bin]
    by_cases h0 : 0 ≤ S
    · obtain ⟨z, hz⟩ : ∃ z, z = R * C := ⟨_, rfl⟩
      rw [← hz] at h9
      by_cases h1 : S < ((2 ^ z : Nat) : Int)
      · rw [← hz, decide_eq_true (⟨h0, h1⟩ : 0 ≤ S ∧ S < ((2 ^ z : Nat) : Int))]
        rw [← Nat.one_shiftLeft] at h1
        repeat (first | with_reducible refine wg1 rfl ?_ | with_reducible refine wpT ?_ | with_reducible refine wpv ?_ | with_reducible refine wsm ?_ | with_reducible refine wrB ?_ | (with_reducible refine wmulZ hz (by omega) ?_) | with_reducible refine wshl (by omega) ?_ | with_reducible refine wlssT (by omega) ?_ | with_reducible refine wgeqT (by omega) ?_ | dsimp only)
        exact W.ret ⟨rfl, rfl⟩
      · rw [← hz, decide_eq_false (fun hh : 0 ≤ S ∧ S < ((2 ^ z : Nat) : Int) => h1 hh.2)]
        rw [← Nat.one_shiftLeft] at h1
        repeat (first | with_reducible refine wg1 rfl ?_ | with_reducible refine wpT ?_ | with_reducible refine wpv ?_ | with_reducible refine wsm ?_ | with_reducible refine wrB ?_ | (with_reducible refine wmulZ hz (by omega) ?_) | with_reducible refine wshl (by omega) ?_ | with_reducible refine wlssF (by omega) ?_ | with_reducible refine wgeqT (by omega) ?_ | dsimp only)
        exact W.ret ⟨rfl, rfl⟩
    · rw [decide_eq_false (fun hh : 0 ≤ S ∧ S < ((2 ^ (R * C) : Nat) : Int) => h0 hh.1)]
      repeat (first | with_reducible refine wg0 rfl ?_ | with_reducible refine wpF ?_ | with_reducible refine wsm ?_ | with_reducible refine wrB ?_ | with_reducible refine wgeqF (by omega) ?_ | dsimp only)
      exact W.ret ⟨rfl, rfl⟩
  obtain ⟨_, _, e, rfl, rfl⟩ := this
  exact e

theorem setWins_W (hbig : Big g) (hlf : 1000 < lf) (N : Nat) (hN : 30 ≤ N) (r c pl S t : Int) {xs : List Int} {p : PV} {h : PHeap} (ht : TabOk g h) (hp : IntSl .i64 h p xs) (hl : xs.length ≤ 2 ^ 35) (hf : xs.length < lf) (htt : playerB pl = true → ∃ T : Nat, t = (T : Int) ∧ (T = 1 ∨ T = 2)) :
    W (CL g lf N fn_impl_setWins [.int .i64 r, .int .i64 c, p, .int .i64 pl, .int .i64 t, .int .i64 S] h) fun v h' => v = .bool (okL r c xs pl S && decide (winL r c (givenL xs pl S.toNat) t = pl)) ∧ Keep h.length h h' := by
  obtain ⟨n, rfl⟩ : ∃ n, N = n + 1 := ⟨N - 1, by omega⟩
  have hpos := positionOk_N g lf n (by omega) r c hp (by omega) hf
  have hplay := playerOk_W g lf n (by omega) h pl
  unfold okL
  rw [impl_setWins.call_eq]
  unfold impl_setWins.main
  simp only [env_C, env_pick, env_un]
  cases hb : posB r c xs with
  | false =>
    rw [hb] at hpos
    repeat (first | with_reducible refine wT ?_ | with_reducible refine wg0 rfl ?_ | with_reducible refine wpT ?_ | with_reducible refine wnF ?_ | with_reducible refine wsm ?_ | with_reducible refine wrB ?_ | with_reducible refine wbd (by assumption) ?_ | dsimp only)
    exact W.ret ⟨rfl, Keep.refl _ _⟩
  | true =>
    rw [hb] at hpos
    cases hpl : playerB pl with
    | false =>
      rw [hpl] at hplay
      repeat (first | with_reducible refine wT ?_ | with_reducible refine wg1 rfl ?_ | with_reducible refine wg0 rfl ?_ | with_reducible refine wpT ?_ | with_reducible refine wpF ?_ | with_reducible refine wnT ?_ | with_reducible refine wnF ?_ | with_reducible refine wpv ?_ | with_reducible refine wsm ?_ | with_reducible refine wrB ?_ | with_reducible refine wbd (by assumption) ?_ | dsimp only)
      exact W.ret ⟨rfl, Keep.refl _ _⟩
    | true =>
      rw [hpl] at hplay
      obtain ⟨T, rfl, hT⟩ := htt hpl
      obtain ⟨R, C, hS⟩ := sides_of hb
      obtain ⟨P, rfl, hP⟩ := player_of hpl
      have hB := board_of_sides hS
      obtain ⟨rfl, rfl, _, _, _, _, h9, hlen, _⟩ := id hS
      have hso := setOk_W g lf hB n (by omega) h S
      rw [hlen]
      cases hso2 : decide (0 ≤ S ∧ S < ((2 ^ (R * C) : Nat) : Int)) with
      | false =>
        rw [hso2] at hso
        repeat (first | with_reducible refine wT ?_ | with_reducible refine wg1 rfl ?_ | with_reducible refine wpF ?_ | with_reducible refine wnT ?_ | with_reducible refine wnF ?_ | with_reducible refine wpv ?_ | with_reducible refine wsm ?_ | with_reducible refine wrB ?_ | with_reducible refine wbd (by assumption) ?_ | dsimp only)
        exact W.ret ⟨rfl, Keep.refl _ _⟩
      | true =>
        rw [hso2] at hso
        have hsb := of_decide_eq_true hso2
        obtain ⟨Z, rfl⟩ := Int.eq_ofNat_of_zero_le hsb.1
        have h22 : 2 ^ (R * C) ≤ 2 ^ 9 := Nat.pow_le_pow_right (by decide) h9
        have hZ : Z < 2 ^ 9 := by have := hsb.2; omega
        repeat (first | with_reducible refine wF ?_ | with_reducible refine wg1 rfl ?_ | with_reducible refine wpF ?_ | with_reducible refine wnT ?_ | with_reducible refine wpv ?_ | with_reducible refine wsm ?_ | with_reducible refine wbd (by assumption) ?_ | dsimp only)
        refine wcall (newSearch_W g lf hB n (by omega) hlf ht.1) fun v h1 ⟨s, m, hv, hs, k1, l1, l2⟩ => ?_
        subst hv
        repeat (first | dsimp only)
        refine wcall (standingOf_W g lf (hp.keep k1) (by omega) T n (by omega) hlf) fun v h2 ⟨hv, k2⟩ => ?_
        subst hv
        repeat (first | dsimp only)
        refine wcall (winsWith_W g lf hb hbig hlf hP hT hZ n (by omega) (hs.keep k2) ((ht.2.keep k1).keep k2)) fun v h3 ⟨hv, hs3, k3⟩ => ?_
        subst hv
        repeat (first | with_reducible refine wrB ?_ | dsimp only)
        exact W.ret ⟨rfl, (k1.trans (k2.mono k1.1)).kbs (Nat.le_refl _) k3 l2⟩

theorem swapI_other {pl : Int} (h : playerB pl = true) : swapI pl = 3 - pl ∧ ∃ T : Nat, swapI pl = (T : Int) ∧ (T = 1 ∨ T = 2) := by
  obtain ⟨P, rfl, hP⟩ := player_of h
  rcases hP with rfl | rfl
  · exact ⟨rfl, 2, rfl, .inr rfl⟩
  · exact ⟨rfl, 1, rfl, .inl rfl⟩

theorem carrierOkOk (hbig : Big g) (hlf : 1000 < lf) : CarrierOkOk g lf := by
  intro N hN r c pl S xs p h ht hp hl hf
  obtain ⟨n, rfl⟩ : ∃ n, N = n + 1 := ⟨N - 1, by omega⟩
  have ex := exchanged_N g lf n (by omega) h pl
  have : W (CL g lf (n + 1) fn_impl_CarrierOk [.int .i64 r, .int .i64 c, p, .int .i64 pl, .int .i64 S] h) fun v h' => v = .bool (carrierL r c xs pl S) ∧ Keep h.length h h' := by
    rw [impl_CarrierOk.call_eq]
    unfold impl_CarrierOk.main
    simp only [env_C]
    repeat (first | with_reducible refine wbd (by assumption) ?_ | dsimp only)
    refine wcall (setWins_W g lf hbig hlf n (by omega) r c pl S (swapI pl) ht hp hl hf (fun hpl => (swapI_other hpl).2)) fun v h1 ⟨hv, k1⟩ => ?_
    subst hv
    repeat (first | with_reducible refine wrB ?_ | dsimp only)
    refine W.ret ⟨?_, k1⟩
    unfold carrierL
    cases ho : okL r c xs pl S with
    | false => rfl
    | true =>
      have hpl : playerB pl = true := by unfold okL at ho; simp only [Bool.and_eq_true] at ho; exact ho.1.2
      rw [(swapI_other hpl).1]
  obtain ⟨_, h', e, rfl, k⟩ := this
  exact ⟨h', e, k⟩
theorem threatOkOk (hbig : Big g) (hlf : 1000 < lf) : ThreatOkOk g lf := by
  intro N hN r c pl S xs p h ht hp hl hf
  obtain ⟨n, rfl⟩ : ∃ n, N = n + 1 := ⟨N - 1, by omega⟩
  have : W (CL g lf (n + 1) fn_impl_ThreatOk [.int .i64 r, .int .i64 c, p, .int .i64 pl, .int .i64 S] h) fun v h' => v = .bool (threatL r c xs pl S) ∧ Keep h.length h h' := by
    rw [impl_ThreatOk.call_eq]
    unfold impl_ThreatOk.main
    simp only [env_C]
    refine wcall (setWins_W g lf hbig hlf n (by omega) r c pl S pl ht hp hl hf (fun hpl => player_of hpl)) fun v h1 ⟨hv, k1⟩ => ?_
    subst hv
    repeat (first | with_reducible refine wrB ?_ | dsimp only)
    exact W.ret ⟨rfl, k1⟩
  obtain ⟨_, h', e, rfl, k⟩ := this
  exact ⟨h', e, k⟩

/-! ### the least sets -/
/-! ### cells that must be taken -/
/-! ### bridges -/
end Go.Proofs.YtmhflbomploidaaDoor

