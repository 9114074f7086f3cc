/- Texts of this seat, in their order, put together by program. -/
import Derived.Test.YtbmmcldbllhhhaaDoorJ8
set_option linter.unusedSimpArgs false
set_option linter.unusedVariables false
set_option linter.unusedSectionVars false
/- Who wins, told by the sets of both players' stones: what it is, that a stone more never harms, that to move never harms, and that turned and mirrored it is the same. No program text. -/
set_option maxRecDepth 20000
namespace Go.Proofs.YtbmmcldbllhhhaaDoor
open Go Go.Ip G

/-- A stone of the one to move. -/
def putA (t k a : Nat) : Nat := if t = 1 then a ||| (1 <<< k) else a
def putB (t k b : Nat) : Nat := if t = 1 then b else b ||| (1 <<< k)

def winF (R C : Nat) : Nat → Nat → Nat → Nat → Nat
  | 0, a, b, t => if joinsN R C 1 a = true then 1 else if joinsN R C 2 b = true then 2 else 3 - t
  | f + 1, a, b, t => if joinsN R C 1 a = true then 1 else if joinsN R C 2 b = true then 2 else
      if ((List.range (R * C)).any fun k => !(a ||| b).testBit k && decide (winF R C f (putA t k a) (putB t k b) (3 - t) = t)) = true then t else 3 - t

/-- The free cells. -/
def frN (n a b : Nat) : Nat := (List.range n).countP fun k => !(a ||| b).testBit k
def winN (R C a b t : Nat) : Nat := winF R C (R * C) a b t

theorem put_bit (t k a b j : Nat) : (putA t k a ||| putB t k b).testBit j = ((a ||| b).testBit j || decide (j = k)) := by
  unfold putA putB
  split
  · rw [Nat.testBit_or, with_bit, Nat.testBit_or]; cases a.testBit j <;> cases b.testBit j <;> simp
  · rw [Nat.testBit_or, with_bit, Nat.testBit_or, Bool.or_assoc]

theorem fr_put {n t k a b : Nat} (hk : k < n) (h : (a ||| b).testBit k = false) : frN n (putA t k a) (putB t k b) + 1 ≤ frN n a b := by
  refine countP_lt (c := k) (fun x _ hx => ?_) (List.mem_range.2 hk) (by show (!(a ||| b).testBit k) = true; rw [h]; rfl) (by show (!(putA t k a ||| putB t k b).testBit k) = false; rw [put_bit]; simp)
  rw [put_bit] at hx
  cases e : (a ||| b).testBit x with
  | false => rfl
  | true => rw [e] at hx; simp at hx

theorem fr_le (n a b : Nat) : frN n a b ≤ n := by
  have := List.countP_le_length (p := fun k => !(a ||| b).testBit k) (l := List.range n)
  rw [List.length_range] at this; exact this

theorem fr_zero {n a b : Nat} (h : frN n a b ≤ 0) {k : Nat} (hk : k < n) : (a ||| b).testBit k = true := by
  have h0 : frN n a b = 0 := by omega
  have := List.countP_eq_zero.1 h0 k (List.mem_range.2 hk)
  cases e : (a ||| b).testBit k with
  | true => rfl
  | false => rw [e] at this; exact (this rfl).elim

/-- A position, by its two sets. -/
def Pos (R C a b : Nat) : Prop := a < 2 ^ (R * C) ∧ b < 2 ^ (R * C) ∧ ∀ j, a.testBit j = true → b.testBit j = true → False

theorem Pos.lt9 {R C a b : Nat} (hB : BoardOf R C) (h : Pos R C a b) : a < 2 ^ 9 ∧ b < 2 ^ 9 := by
  have : 2 ^ (R * C) ≤ 2 ^ 9 := Nat.pow_le_pow_right (by decide) hB.2.2.2.2
  exact ⟨Nat.lt_of_lt_of_le h.1 this, Nat.lt_of_lt_of_le h.2.1 this⟩

theorem Pos.put {R C a b t k : Nat} (h : Pos R C a b) (hk : k < R * C) (hf : (a ||| b).testBit k = false) : Pos R C (putA t k a) (putB t k b) := by
  rw [Nat.testBit_or, Bool.or_eq_false_iff] at hf
  have hl : 1 <<< k < 2 ^ (R * C) := by rw [Nat.one_shiftLeft]; exact Nat.pow_lt_pow_right (by decide) hk
  unfold putA putB
  split
  · refine ⟨Nat.or_lt_two_pow h.1 hl, h.2.1, fun j h1 h2 => ?_⟩
    rw [with_bit, Bool.or_eq_true, decide_eq_true_eq] at h1
    rcases h1 with h1 | rfl
    · exact h.2.2 j h1 h2
    · rw [hf.2] at h2; cases h2
  · refine ⟨h.1, Nat.or_lt_two_pow h.2.1 hl, fun j h1 h2 => ?_⟩
    rw [with_bit, Bool.or_eq_true, decide_eq_true_eq] at h2
    rcases h2 with h2 | rfl
    · exact h.2.2 j h1 h2
    · rw [hf.1] at h1; cases h1

/-- Never have both joined. -/
theorem Pos.both {R C a b : Nat} (hB : BoardOf R C) (h : Pos R C a b) (h1 : joinsN R C 1 a = true) : joinsN R C 2 b = false := by
  cases e : joinsN R C 2 b with
  | false => rfl
  | true =>
    have l9 := h.lt9 hB
    have hc : 2 ^ (R * C) - 1 - a < 2 ^ 9 := by
      have : 2 ^ (R * C) ≤ 2 ^ 9 := Nat.pow_le_pow_right (by decide) hB.2.2.2.2
      omega
    have h2 := joins_mono (P := 2) l9.2 hc (fun j hj => by
      rw [compl_bit h.1]
      have hjn := bit_small h.2.1 hj
      cases ea : a.testBit j with
      | false => simp [hjn]
      | true => exact (h.2.2 j ea hj).elim) e
    have h3 := hex hB (.inl rfl) h.1
    rw [h1, show 3 - 1 = 2 from rfl, h2] at h3
    cases h3

/-- If nobody has joined there is a free cell. -/
theorem Pos.free {R C a b : Nat} (hB : BoardOf R C) (h : Pos R C a b) (h1 : joinsN R C 1 a = false) (h2 : joinsN R C 2 b = false) : ∃ k, k < R * C ∧ (a ||| b).testBit k = false := by
  apply Classical.byContradiction
  intro hn
  have hall : ∀ k, k < R * C → (a ||| b).testBit k = true := fun k hk => by
    cases e : (a ||| b).testBit k with
    | true => rfl
    | false => exact (hn ⟨k, hk, e⟩).elim
  have hb : 2 ^ (R * C) - 1 - a = b := by
    apply Nat.eq_of_testBit_eq
    intro j
    rw [compl_bit h.1]
    by_cases hj : j < R * C
    · have := hall j hj
      rw [Nat.testBit_or, Bool.or_eq_true] at this
      cases ea : a.testBit j with
      | true =>
        cases eb : b.testBit j with
        | false => simp
        | true => exact (h.2.2 j ea eb).elim
      | false =>
        rw [ea] at this
        simp at this
        simp [hj, this]
    · cases eb : b.testBit j with
      | true => exact (hj (bit_small h.2.1 eb)).elim
      | false => simp [hj]
  have h3 := hex hB (.inl rfl) h.1
  rw [show 3 - 1 = 2 from rfl, hb, h1, h2] at h3
  cases h3

/-! ### turned and mirrored -/
/-- Each place is taken by just one. -/
structure Perm (f : Nat → Nat) (n : Nat) : Prop where
  lt : ∀ k, k < n → f k < n
  inj : ∀ i k, i < n → k < n → f i = f k → i = k
  onto : ∀ j, j < n → ∃ k, k < n ∧ f k = j

theorem moved_at {f : Nat → Nat} {S n k : Nat} (hf : Perm f n) (hk : k < n) : (moved f S n).testBit (f k) = S.testBit k := by
  rw [Bool.eq_iff_iff, moved_bit]
  constructor
  · rintro ⟨i, hi, h, e⟩
    rw [hf.inj k i hk hi e]; exact h
  · intro h; exact ⟨k, hk, h, rfl⟩

theorem moved_lt {f : Nat → Nat} {S n : Nat} (hf : Perm f n) : moved f S n < 2 ^ n := by
  apply Nat.lt_pow_two_of_testBit
  intro i hi
  cases e : (moved f S n).testBit i with
  | false => rfl
  | true =>
    obtain ⟨k, hk, _, rfl⟩ := (moved_bit f S n i).1 e
    have := hf.lt k hk
    omega

theorem Pos.moved {R C R' C' a b : Nat} {f : Nat → Nat} (hn : R' * C' = R * C) (hf : Perm f (R * C)) (h : Pos R C a b) : Pos R' C' (moved f a (R * C)) (moved f b (R * C)) := by
  refine ⟨by rw [hn]; exact moved_lt hf, by rw [hn]; exact moved_lt hf, fun j h1 h2 => ?_⟩
  obtain ⟨i, hi, ha, rfl⟩ := (moved_bit _ _ _ _).1 h1
  rw [moved_at hf hi] at h2
  exact h.2.2 i ha h2

end Go.Proofs.YtbmmcldbllhhhaaDoor

/- A game in which both take cells in turn until one of both has what is wanted: never have both, and on a full board one has. Who wins, that a cell more never harms, and that to move never harms. No program text. -/
set_option maxRecDepth 20000
namespace Go.Proofs.YtbmmcldbllhhhaaDoor
open Go Go.Ip G

/-- What the first one wants, and the second one: more never harms, and on a full board just one of both has it. -/
structure Game (n : Nat) (J1 J2 : Nat → Bool) : Prop where
  mono1 : ∀ a b, a < 2 ^ n → b < 2 ^ n → (∀ j, a.testBit j = true → b.testBit j = true) → J1 a = true → J1 b = true
  mono2 : ∀ a b, a < 2 ^ n → b < 2 ^ n → (∀ j, a.testBit j = true → b.testBit j = true) → J2 a = true → J2 b = true
  ex : ∀ a, a < 2 ^ n → J2 (2 ^ n - 1 - a) = !J1 a

def gWinF (n : Nat) (J1 J2 : Nat → Bool) : Nat → Nat → Nat → Nat → Nat
  | 0, a, b, t => if J1 a = true then 1 else if J2 b = true then 2 else 3 - t
  | f + 1, a, b, t => if J1 a = true then 1 else if J2 b = true then 2 else
      if ((List.range n).any fun k => !(a ||| b).testBit k && decide (gWinF n J1 J2 f (putA t k a) (putB t k b) (3 - t) = t)) = true then t else 3 - t

def gWin (n : Nat) (J1 J2 : Nat → Bool) (a b t : Nat) : Nat := gWinF n J1 J2 n a b t

theorem gWinF_fuel {n : Nat} {J1 J2 : Nat → Bool} : ∀ (f f' a b t : Nat), frN n a b ≤ f → frN n a b ≤ f' → gWinF n J1 J2 f a b t = gWinF n J1 J2 f' a b t
  | 0, 0, a, b, t, _, _ => rfl
  | 0, f' + 1, a, b, t, h, _ => by
    rw [gWinF, gWinF]
    have : ((List.range n).any fun k => !(a ||| b).testBit k && decide (gWinF n J1 J2 f' (putA t k a) (putB t k b) (3 - t) = t)) = false := by
      rw [List.any_eq_false]
      intro k hk
      rw [fr_zero h (List.mem_range.1 hk)]; simp
    rw [this]; rfl
  | f + 1, 0, a, b, t, _, h => by
    rw [gWinF, gWinF]
    have : ((List.range n).any fun k => !(a ||| b).testBit k && decide (gWinF n J1 J2 f (putA t k a) (putB t k b) (3 - t) = t)) = false := by
      rw [List.any_eq_false]
      intro k hk
      rw [fr_zero h (List.mem_range.1 hk)]; simp
    rw [this]; rfl
  | f + 1, f' + 1, a, b, t, h, h' => by
    rw [gWinF, gWinF]
    have : ((List.range n).any fun k => !(a ||| b).testBit k && decide (gWinF n J1 J2 f (putA t k a) (putB t k b) (3 - t) = t)) = ((List.range n).any fun k => !(a ||| b).testBit k && decide (gWinF n J1 J2 f' (putA t k a) (putB t k b) (3 - t) = t)) := by
      rw [Bool.eq_iff_iff, List.any_eq_true, List.any_eq_true]
      refine exists_congr fun k => and_congr_right fun hk => ?_
      rw [← Bool.eq_iff_iff]
      cases e : (a ||| b).testBit k with
      | true => rfl
      | false =>
        have := fr_put (t := t) (List.mem_range.1 hk) e
        rw [gWinF_fuel f f' (putA t k a) (putB t k b) (3 - t) (by omega) (by omega)]
    rw [this]

/-- What is asked of a position that nobody has won: is there a move after which the one to move wins? -/
def gMove (n : Nat) (J1 J2 : Nat → Bool) (a b t : Nat) : Bool := (List.range n).any fun k => !(a ||| b).testBit k && decide (gWin n J1 J2 (putA t k a) (putB t k b) (3 - t) = t)

theorem gWin_eq (n : Nat) (J1 J2 : Nat → Bool) (a b t : Nat) : gWin n J1 J2 a b t = if J1 a = true then 1 else if J2 b = true then 2 else if gMove n J1 J2 a b t = true then t else 3 - t := by
  have h1 : gWin n J1 J2 a b t = gWinF n J1 J2 (n + 1) a b t := gWinF_fuel _ _ _ _ _ (fr_le _ _ _) (by have := fr_le n a b; omega)
  rw [h1, gWinF]; rfl

theorem gMove_iff {n a b t : Nat} {J1 J2 : Nat → Bool} : gMove n J1 J2 a b t = true ↔ ∃ k, k < n ∧ (a ||| b).testBit k = false ∧ gWin n J1 J2 (putA t k a) (putB t k b) (3 - t) = t := by
  unfold gMove
  rw [List.any_eq_true]
  constructor
  · rintro ⟨k, hk, h⟩
    rw [Bool.and_eq_true, decide_eq_true_eq] at h
    exact ⟨k, List.mem_range.1 hk, by simpa using h.1, h.2⟩
  · rintro ⟨k, hk, h1, h2⟩
    exact ⟨k, List.mem_range.2 hk, by rw [h1, h2]; simp⟩

/-- A position, by its two sets. -/
def gPos (n a b : Nat) : Prop := a < 2 ^ n ∧ b < 2 ^ n ∧ ∀ j, a.testBit j = true → b.testBit j = true → False

theorem gPos.put {n a b t k : Nat} (h : gPos n a b) (hk : k < n) (hf : (a ||| b).testBit k = false) : gPos n (putA t k a) (putB t k b) := by
  rw [Nat.testBit_or, Bool.or_eq_false_iff] at hf
  have hl : 1 <<< k < 2 ^ n := by rw [Nat.one_shiftLeft]; exact Nat.pow_lt_pow_right (by decide) hk
  unfold putA putB
  split
  · refine ⟨Nat.or_lt_two_pow h.1 hl, h.2.1, fun j h1 h2 => ?_⟩
    rw [with_bit, Bool.or_eq_true, decide_eq_true_eq] at h1
    rcases h1 with h1 | rfl
    · exact h.2.2 j h1 h2
    · rw [hf.2] at h2; cases h2
  · refine ⟨h.1, Nat.or_lt_two_pow h.2.1 hl, fun j h1 h2 => ?_⟩
    rw [with_bit, Bool.or_eq_true, decide_eq_true_eq] at h2
    rcases h2 with h2 | rfl
    · exact h.2.2 j h1 h2
    · rw [hf.1] at h1; cases h1

theorem gw_first {n a b t : Nat} {J1 J2 : Nat → Bool} (h : J1 a = true) : gWin n J1 J2 a b t = 1 := by rw [gWin_eq, if_pos h]
/-- Never have both. -/
theorem gPos.both {n a b : Nat} {J1 J2 : Nat → Bool} (hB : Game n J1 J2) (h : gPos n a b) (h1 : J1 a = true) : J2 b = false := by
  cases e : J2 b with
  | false => rfl
  | true =>
    have hc : 2 ^ n - 1 - a < 2 ^ n := by have := Nat.two_pow_pos n; omega
    have h2 := hB.mono2 b _ h.2.1 hc (fun j hj => by
      rw [compl_bit h.1]
      have hjn := bit_small h.2.1 hj
      cases ea : a.testBit j with
      | false => simp [hjn]
      | true => exact (h.2.2 j ea hj).elim) e
    rw [hB.ex a h.1, h1] at h2
    cases h2
/-- If nobody has joined there is a free cell. -/
theorem gPos.free {n a b : Nat} {J1 J2 : Nat → Bool} (hB : Game n J1 J2) (h : gPos n a b) (h1 : J1 a = false) (h2 : J2 b = false) : ∃ k, k < n ∧ (a ||| b).testBit k = false := by
  apply Classical.byContradiction
  intro hn
  have hall : ∀ k, k < n → (a ||| b).testBit k = true := fun k hk => by
    cases e : (a ||| b).testBit k with
    | true => rfl
    | false => exact (hn ⟨k, hk, e⟩).elim
  have hb : 2 ^ n - 1 - a = b := by
    apply Nat.eq_of_testBit_eq
    intro j
    rw [compl_bit h.1]
    by_cases hj : j < n
    · have := hall j hj
      rw [Nat.testBit_or, Bool.or_eq_true] at this
      cases ea : a.testBit j with
      | true =>
        cases eb : b.testBit j with
        | false => simp
        | true => exact (h.2.2 j ea eb).elim
      | false =>
        rw [ea] at this
        simp at this
        simp [hj, this]
    · cases eb : b.testBit j with
      | true => exact (hj (bit_small h.2.1 eb)).elim
      | false => simp [hj]
  have h3 := hB.ex a h.1
  rw [hb, h1, h2] at h3
  cases h3

theorem gw_second {n a b t : Nat} {J1 J2 : Nat → Bool} (hB : Game n J1 J2) (hp : gPos n a b) (h : J2 b = true) : gWin n J1 J2 a b t = 2 := by
  rw [gWin_eq, if_neg, if_pos h]
  intro h1; rw [hp.both hB h1] at h; cases h
theorem gw_open {n a b t : Nat} {J1 J2 : Nat → Bool} (h1 : J1 a = false) (h2 : J2 b = false) : gWin n J1 J2 a b t = if gMove n J1 J2 a b t = true then t else 3 - t := by
  rw [gWin_eq, if_neg (by rw [h1]; decide), if_neg (by rw [h2]; decide)]

end Go.Proofs.YtbmmcldbllhhhaaDoor

/- Nets: which nodes are come to by a set of wires; sets that link the ends. No program text. -/
set_option maxRecDepth 20000
namespace Go.Proofs.YtbmmcldbllhhhaaDoor
open Go Go.Ip G

def stepW (set : Nat) : List (Nat × Nat) → Nat → Nat → Nat
  | [], _, now => now
  | w :: l, k, now => stepW set l (k + 1) (if (set.testBit k && (now.testBit w.1 != now.testBit w.2)) = true then now ||| (1 <<< w.1) ||| (1 <<< w.2) else now)
def reachF (ws : List (Nat × Nat)) (set : Nat) : Nat → Nat → Nat
  | 0, now => now
  | f + 1, now => if stepW set ws 0 now = now then now else reachF ws set f (stepW set ws 0 now)
def reachW (ws : List (Nat × Nat)) (set fr : Nat) : Nat := reachF ws set 40 (1 <<< fr)
def linkW (ws : List (Nat × Nat)) (set : Nat) : Bool := (reachW ws set 0).testBit 1
/-- All wires are between two different nodes of at most five. -/
def NetN (nodes : Nat) (ws : List (Nat × Nat)) : Prop := 2 ≤ nodes ∧ nodes ≤ 5 ∧ ws.length ≤ 8 ∧ ∀ w ∈ ws, w.1 < nodes ∧ w.2 < nodes ∧ w.1 ≠ w.2

/-- One comes from a node to another one by wires of a set. -/
inductive Conn (ws : List (Nat × Nat)) (set u : Nat) : Nat → Prop where
  | refl : Conn ws set u u
  | fwd {v k : Nat} {w : Nat × Nat} : Conn ws set u v → ws[k]? = some w → set.testBit k = true → w.1 = v → Conn ws set u w.2
  | bwd {v k : Nat} {w : Nat × Nat} : Conn ws set u v → ws[k]? = some w → set.testBit k = true → w.2 = v → Conn ws set u w.1

theorem Conn.mono {ws : List (Nat × Nat)} {S S' u v : Nat} (hm : ∀ j, S.testBit j = true → S'.testBit j = true) (h : Conn ws S u v) : Conn ws S' u v := by
  induction h with
  | refl => exact .refl
  | fwd _ hw hs e ih => exact .fwd ih hw (hm _ hs) e
  | bwd _ hw hs e ih => exact .bwd ih hw (hm _ hs) e
theorem Conn.trans {ws : List (Nat × Nat)} {S u v x : Nat} (h : Conn ws S u v) (h2 : Conn ws S v x) : Conn ws S u x := by
  induction h2 with
  | refl => exact h
  | fwd _ hw hs e ih => exact .fwd ih hw hs e
  | bwd _ hw hs e ih => exact .bwd ih hw hs e
theorem Conn.symm {ws : List (Nat × Nat)} {S u v : Nat} (h : Conn ws S u v) : Conn ws S v u := by
  induction h with
  | refl => exact .refl
  | fwd _ hw hs e ih => subst e; exact (Conn.bwd .refl hw hs rfl).trans ih
  | bwd _ hw hs e ih => subst e; exact (Conn.fwd .refl hw hs rfl).trans ih

theorem stepW_sub (set : Nat) : ∀ (l : List (Nat × Nat)) (k now j : Nat), now.testBit j = true → (stepW set l k now).testBit j = true
  | [], _, _, _, h => h
  | w :: l, k, now, j, h => by
    rw [stepW]
    apply stepW_sub
    split
    · rw [with_bit, with_bit, h]; rfl
    · exact h
theorem stepW_in {ws : List (Nat × Nat)} {set u : Nat} : ∀ (l : List (Nat × Nat)) (k now : Nat), ws.drop k = l → (∀ j, now.testBit j = true → Conn ws set u j) → ∀ j, (stepW set l k now).testBit j = true → Conn ws set u j
  | [], _, _, _, h => h
  | w :: l, k, now, hd, h => by
    have hk : ws[k]? = some w := by rw [← List.head?_drop, hd]; rfl
    have hd' : ws.drop (k + 1) = l := by rw [← List.tail_drop, hd]; rfl
    rw [stepW]
    apply stepW_in l (k + 1) _ hd'
    intro j hj
    split at hj
    · rename_i hc
      rw [Bool.and_eq_true, bne_iff_ne, ne_eq] at hc
      obtain ⟨hs, hne⟩ := hc
      rw [with_bit, with_bit, Bool.or_eq_true, Bool.or_eq_true, decide_eq_true_eq, decide_eq_true_eq] at hj
      rcases hj with (hj | rfl) | rfl
      · exact h j hj
      · cases e1 : now.testBit w.1 with
        | true => exact h _ e1
        | false =>
          cases e2 : now.testBit w.2 with
          | true => exact .bwd (h _ e2) hk hs rfl
          | false => rw [e1, e2] at hne; exact absurd rfl hne
      · cases e2 : now.testBit w.2 with
        | true => exact h _ e2
        | false =>
          cases e1 : now.testBit w.1 with
          | true => exact .fwd (h _ e1) hk hs rfl
          | false => rw [e1, e2] at hne; exact absurd rfl hne
    · exact h j hj
/-- If a step adds nothing, the set is closed. -/
theorem stepW_fix {set : Nat} : ∀ (l : List (Nat × Nat)) (k now : Nat), stepW set l k now = now → ∀ i w, l[i]? = some w → set.testBit (k + i) = true → now.testBit w.1 = now.testBit w.2
  | [], _, _, _, i, w, hw, _ => by simp at hw
  | w0 :: l, k, now, h, i, w, hw, hs => by
    rw [stepW] at h
    have h0 : (if (set.testBit k && (now.testBit w0.1 != now.testBit w0.2)) = true then now ||| (1 <<< w0.1) ||| (1 <<< w0.2) else now) = now := by
      apply Nat.eq_of_testBit_eq
      intro j
      cases e : now.testBit j with
      | true => split <;> simp [with_bit, e]
      | false =>
        cases e2 : (if (set.testBit k && (now.testBit w0.1 != now.testBit w0.2)) = true then now ||| (1 <<< w0.1) ||| (1 <<< w0.2) else now).testBit j with
        | false => rfl
        | true =>
          have := stepW_sub set l (k + 1) _ j e2
          rw [h, e] at this; cases this
    cases i with
    | zero =>
      simp at hw; subst hw
      rw [Nat.add_zero] at hs
      by_cases e : now.testBit w0.1 = now.testBit w0.2
      · exact e
      · rw [if_pos (by rw [hs, Bool.true_and, bne_iff_ne]; exact e)] at h0
        have h1 : now.testBit w0.1 = true := by rw [← h0, with_bit, with_bit]; simp
        have h2 : now.testBit w0.2 = true := by rw [← h0, with_bit]; simp
        rw [h1, h2]
    | succ i =>
      rw [h0] at h
      exact stepW_fix l (k + 1) now h i w (by simpa using hw) (by rw [show k + 1 + i = k + (i + 1) by omega]; exact hs)
theorem stepW_lt {set n : Nat} : ∀ (l : List (Nat × Nat)) (k now : Nat), (∀ w ∈ l, w.1 < n ∧ w.2 < n) → now < 2 ^ n → stepW set l k now < 2 ^ n
  | [], _, _, _, h => h
  | w :: l, k, now, hl, h => by
    rw [stepW]
    refine stepW_lt l (k + 1) _ (fun x hx => hl x (by simp [hx])) ?_
    obtain ⟨a, b⟩ := hl w (by simp)
    split
    · exact Nat.or_lt_two_pow (Nat.or_lt_two_pow h (by rw [Nat.one_shiftLeft]; exact Nat.pow_lt_pow_right (by decide) a)) (by rw [Nat.one_shiftLeft]; exact Nat.pow_lt_pow_right (by decide) b)
    · exact h
theorem stepW_le {set : Nat} (l : List (Nat × Nat)) (k now : Nat) : now ≤ stepW set l k now := sub_le fun j hj => stepW_sub set l k now j hj
theorem reachF_ok {ws : List (Nat × Nat)} {set n u : Nat} (hl : ∀ w ∈ ws, w.1 < n ∧ w.2 < n) : ∀ (f now : Nat), now < 2 ^ n → 2 ^ n < now + f → (∀ j, now.testBit j = true → Conn ws set u j) →
    (∀ j, now.testBit j = true → (reachF ws set f now).testBit j = true) ∧ (∀ j, (reachF ws set f now).testBit j = true → Conn ws set u j) ∧ reachF ws set f now < 2 ^ n ∧ stepW set ws 0 (reachF ws set f now) = reachF ws set f now
  | 0, now, h, h2, _ => by omega
  | f + 1, now, h, h2, h3 => by
    rw [reachF]
    split
    · rename_i e; exact ⟨fun _ h => h, h3, h, e⟩
    · rename_i e
      have hle := stepW_le (set := set) ws 0 now
      obtain ⟨a, b, c, d⟩ := reachF_ok hl f (stepW set ws 0 now) (stepW_lt ws 0 now hl h) (by omega) (stepW_in ws 0 now rfl h3)
      exact ⟨fun j hj => a j (stepW_sub set ws 0 now j hj), b, c, d⟩
theorem reach_bit {nodes : Nat} {ws : List (Nat × Nat)} (hn : NetN nodes ws) {set u : Nat} (hu : u < nodes) (j : Nat) : (reachW ws set u).testBit j = true ↔ Conn ws set u j := by
  obtain ⟨n1, n2, n3, n4⟩ := hn
  have h1 : 1 <<< u < 2 ^ 5 := by rw [Nat.one_shiftLeft]; exact Nat.pow_lt_pow_right (by decide) (by omega)
  have h0 : 0 < 1 <<< u := by rw [Nat.one_shiftLeft]; exact Nat.two_pow_pos u
  obtain ⟨a, b, c, d⟩ := reachF_ok (ws := ws) (set := set) (n := 5) (u := u) (fun w hw => by have := n4 w hw; omega) 40 (1 <<< u) h1 (by omega) (fun j hj => by
    rw [one_bit] at hj
    have hju : j = u := by simpa using hj
    subst hju; exact .refl)
  refine ⟨b j, fun h => ?_⟩
  have hfix := stepW_fix ws 0 (reachW ws set u) d
  induction h with
  | refl => exact a u (by rw [one_bit]; simp)
  | fwd _ hw hs e ih => subst e; rw [← hfix _ _ hw (by rw [Nat.zero_add]; exact hs)]; exact ih
  | bwd _ hw hs e ih => subst e; rw [hfix _ _ hw (by rw [Nat.zero_add]; exact hs)]; exact ih
theorem link_iff {nodes : Nat} {ws : List (Nat × Nat)} (hn : NetN nodes ws) {set : Nat} : linkW ws set = true ↔ Conn ws set 0 1 := reach_bit hn (by have := hn.1; omega) 1
theorem link_mono {nodes : Nat} {ws : List (Nat × Nat)} (hn : NetN nodes ws) {S S' : Nat} (hm : ∀ j, S.testBit j = true → S'.testBit j = true) (h : linkW ws S = true) : linkW ws S' = true := (link_iff hn).2 (((link_iff hn).1 h).mono hm)

/-- The game of wires. -/
def cutW (ws : List (Nat × Nat)) (b : Nat) : Bool := !linkW ws (2 ^ ws.length - 1 - b)
theorem wire_game {nodes : Nat} {ws : List (Nat × Nat)} (hn : NetN nodes ws) : Game ws.length (linkW ws) (cutW ws) where
  mono1 := fun a b _ _ hm h => link_mono hn hm h
  mono2 := fun a b ha hb hm h => by
    unfold cutW at *
    rw [Bool.not_eq_true'] at h ⊢
    cases e : linkW ws (2 ^ ws.length - 1 - b) with
    | false => rfl
    | true =>
      rw [link_mono hn (fun j hj => ?_) e] at h
      · cases h
      · rw [compl_bit hb, Bool.and_eq_true] at hj
        rw [compl_bit ha, hj.1, Bool.true_and]
        cases ea : a.testBit j with
        | false => rfl
        | true => rw [hm j ea] at hj; simp at hj
  ex := fun a ha => by unfold cutW; rw [show 2 ^ ws.length - 1 - (2 ^ ws.length - 1 - a) = a by omega]

end Go.Proofs.YtbmmcldbllhhhaaDoor

/- Least sets of wires that link, and that cut. No program text. -/
set_option maxRecDepth 20000
namespace Go.Proofs.YtbmmcldbllhhhaaDoor
open Go Go.Ip G

section
variable {nodes : Nat} {ws : List (Nat × Nat)} (hn : NetN nodes ws)
include hn
end

end Go.Proofs.YtbmmcldbllhhhaaDoor

/- A further wire never harms who joins; with two wires between the ends the first one wins. No program text. -/
set_option maxRecDepth 20000
namespace Go.Proofs.YtbmmcldbllhhhaaDoor
open Go Go.Ip G

theorem Conn.more {ws l : List (Nat × Nat)} {S u v : Nat} (h : Conn ws S u v) : Conn (ws ++ l) S u v := by
  have hg : ∀ {k : Nat} {w}, ws[k]? = some w → (ws ++ l)[k]? = some w := fun hw => by rw [List.getElem?_append_left (List.getElem?_eq_some_iff.1 hw).1]; exact hw
  induction h with
  | refl => exact .refl
  | fwd _ hw hs e ih => exact .fwd ih (hg hw) hs e
  | bwd _ hw hs e ih => exact .bwd ih (hg hw) hs e
theorem Conn.less {ws l : List (Nat × Nat)} {S u v : Nat} (hS : ∀ j, S.testBit j = true → j < ws.length) (h : Conn (ws ++ l) S u v) : Conn ws S u v := by
  have hg : ∀ {k : Nat} {w}, S.testBit k = true → (ws ++ l)[k]? = some w → ws[k]? = some w := fun hs hw => by rw [List.getElem?_append_left (hS _ hs)] at hw; exact hw
  induction h with
  | refl => exact .refl
  | fwd _ hw hs e ih => exact .fwd ih (hg hs hw) hs e
  | bwd _ hw hs e ih => exact .bwd ih (hg hs hw) hs e

end Go.Proofs.YtbmmcldbllhhhaaDoor

/- The gap of wires: layers of nodes, by how many free wires must be taken to come to them. No program text. -/
set_option maxRecDepth 20000
namespace Go.Proofs.YtbmmcldbllhhhaaDoor
open Go Go.Ip G

/-! ### as it is reckoned -/
/-! ### as sets of nodes -/
def Cr (ws : List (Nat × Nat)) (free : Nat) (S : Nat → Prop) (u : Nat) : Prop := ∃ k w, ws[k]? = some w ∧ free.testBit k = true ∧ ((u = w.1 ∧ S w.2) ∨ (u = w.2 ∧ S w.1))
def Ly (ws : List (Nat × Nat)) (own free : Nat) : Nat → Nat → Prop
  | 0, v => Conn ws own 0 v
  | c + 1, v => ∃ u, (Ly ws own free c u ∨ Cr ws free (Ly ws own free c) u) ∧ Conn ws own u v

section
variable {ws : List (Nat × Nat)} {own free : Nat}
theorem Ly.up {c v : Nat} (h : Ly ws own free c v) : Ly ws own free (c + 1) v := ⟨v, .inl h, .refl⟩
theorem Ly.closed {c v x : Nat} (h : Ly ws own free c v) (hx : Conn ws own v x) : Ly ws own free c x := by
  cases c with
  | zero => exact Conn.trans (show Conn ws own 0 v from h) hx
  | succ c =>
    obtain ⟨u, hu, hc⟩ := h
    exact ⟨u, hu, hc.trans hx⟩
theorem Ly.cross {c k : Nat} {w : Nat × Nat} (hw : ws[k]? = some w) (hf : free.testBit k = true) (h : Ly ws own free c w.1 ∨ Ly ws own free c w.2) : Ly ws own free (c + 1) w.1 ∧ Ly ws own free (c + 1) w.2 := by
  rcases h with h | h
  · exact ⟨h.up, w.2, .inr ⟨k, w, hw, hf, .inr ⟨rfl, h⟩⟩, .refl⟩
  · exact ⟨⟨w.1, .inr ⟨k, w, hw, hf, .inl ⟨rfl, h⟩⟩, .refl⟩, h.up⟩
theorem Cr.mono {S T : Nat → Prop} {f f' u : Nat} (hf : ∀ j, f.testBit j = true → f'.testBit j = true) (hS : ∀ v, S v → T v) (h : Cr ws f S u) : Cr ws f' T u := by
  obtain ⟨k, w, hw, hk, h⟩ := h
  refine ⟨k, w, hw, hf k hk, ?_⟩
  rcases h with ⟨h1, h2⟩ | ⟨h1, h2⟩
  · exact .inl ⟨h1, hS _ h2⟩
  · exact .inr ⟨h1, hS _ h2⟩
/-- With the free wires owned as well one comes to just what some layer holds. -/
theorem Ly.conn {c v : Nat} (h : Ly ws own free c v) : Conn ws (own ||| free) 0 v := by
  induction c generalizing v with
  | zero => exact Conn.mono (fun j hj => by rw [Nat.testBit_or, hj]; rfl) (show Conn ws own 0 v from h)
  | succ c ih =>
    obtain ⟨u, hu, hc⟩ := h
    have hc' : Conn ws (own ||| free) u v := hc.mono fun j hj => by rw [Nat.testBit_or, hj]; rfl
    refine Conn.trans ?_ hc'
    rcases hu with hu | ⟨k, w, hw, hk, h⟩
    · exact ih hu
    · have hb : (own ||| free).testBit k = true := by rw [Nat.testBit_or, hk, Bool.or_true]
      rcases h with ⟨rfl, h2⟩ | ⟨rfl, h2⟩
      · exact .bwd (ih h2) hw hb rfl
      · exact .fwd (ih h2) hw hb rfl
/-! ### a free wire that is taken -/
theorem closed_more {e : Nat} {we : Nat × Nat} (he : ws[e]? = some we) {S : Nat → Prop} (hS : ∀ v x, S v → Conn ws own v x → S x) (hw : S we.1 ↔ S we.2) {v x : Nat} (hv : S v) (hc : Conn ws (own ||| (1 <<< e)) v x) : S x := by
  induction hc with
  | refl => exact hv
  | fwd _ hk hs e' ih =>
    subst e'
    rw [with_bit, Bool.or_eq_true, decide_eq_true_eq] at hs
    rcases hs with hs | rfl
    · exact hS _ _ ih (.fwd .refl hk hs rfl)
    · obtain rfl := Option.some.inj (he.symm.trans hk)
      exact hw.1 ih
  | bwd _ hk hs e' ih =>
    subst e'
    rw [with_bit, Bool.or_eq_true, decide_eq_true_eq] at hs
    rcases hs with hs | rfl
    · exact hS _ _ ih (.bwd .refl hk hs rfl)
    · obtain rfl := Option.some.inj (he.symm.trans hk)
      exact hw.2 ih
theorem Ly.more {e : Nat} {we : Nat × Nat} (he : ws[e]? = some we) {c v : Nat} (h : Ly ws own free c v) : Ly ws (own ||| (1 <<< e)) (without free e) c v := by
  have hm : ∀ j, own.testBit j = true → (own ||| (1 <<< e)).testBit j = true := fun j hj => by rw [with_bit, hj]; rfl
  have hbe : (own ||| (1 <<< e)).testBit e = true := by rw [with_bit]; simp
  induction c generalizing v with
  | zero => exact Conn.mono hm (show Conn ws own 0 v from h)
  | succ c ih =>
    obtain ⟨u, hu, hc⟩ := h
    have hc' := hc.mono hm
    rcases hu with hu | ⟨k, w, hw, hk, h⟩
    · exact ⟨u, .inl (ih hu), hc'⟩
    · by_cases hke : k = e
      · subst hke
        obtain rfl := Option.some.inj (he.symm.trans hw)
        rcases h with ⟨rfl, h2⟩ | ⟨rfl, h2⟩
        · exact ⟨we.2, .inl (ih h2), (Conn.bwd .refl he hbe rfl).trans hc'⟩
        · exact ⟨we.1, .inl (ih h2), (Conn.fwd .refl he hbe rfl).trans hc'⟩
      · refine ⟨u, .inr ⟨k, w, hw, by rw [without_bit, hk]; simp [hke], ?_⟩, hc'⟩
        rcases h with ⟨h1, h2⟩ | ⟨h1, h2⟩
        · exact .inl ⟨h1, ih h2⟩
        · exact .inr ⟨h1, ih h2⟩
theorem Ly.less {e : Nat} {we : Nat × Nat} (he : ws[e]? = some we) (hfe : free.testBit e = true) : ∀ c : Nat, (∀ v, Ly ws (own ||| (1 <<< e)) (without free e) c v → Ly ws own free (c + 1) v) ∧ (¬ (Ly ws own free c we.1 ∨ Ly ws own free c we.2) → ∀ v, Ly ws (own ||| (1 <<< e)) (without free e) c v → Ly ws own free c v) := by
  have hfr : ∀ j, (without free e).testBit j = true → free.testBit j = true := fun j hj => by rw [without_bit, Bool.and_eq_true] at hj; exact hj.1
  intro c
  induction c with
  | zero =>
    by_cases ht : Ly ws own free 0 we.1 ∨ Ly ws own free 0 we.2
    · refine ⟨fun v hv => ?_, fun hn => (hn ht).elim⟩
      obtain ⟨t1, t2⟩ := Ly.cross he hfe ht
      exact closed_more (S := Ly ws own free 1) he (fun _ _ h hx => h.closed hx) ⟨fun _ => t2, fun _ => t1⟩ (Ly.up (c := 0) (show Conn ws own 0 0 from .refl)) (show Conn ws (own ||| (1 <<< e)) 0 v from hv)
    · have h2 : ∀ v, Ly ws (own ||| (1 <<< e)) (without free e) 0 v → Ly ws own free 0 v := fun v hv =>
        closed_more (S := Ly ws own free 0) he (fun _ _ h hx => h.closed hx) ⟨fun h => (ht (.inl h)).elim, fun h => (ht (.inr h)).elim⟩ (show Conn ws own 0 0 from .refl) (show Conn ws (own ||| (1 <<< e)) 0 v from hv)
      exact ⟨fun v hv => (h2 v hv).up, fun _ => h2⟩
  | succ c ih =>
    by_cases ht : Ly ws own free (c + 1) we.1 ∨ Ly ws own free (c + 1) we.2
    · refine ⟨fun v hv => ?_, fun hn => (hn ht).elim⟩
      obtain ⟨t1, t2⟩ := Ly.cross he hfe ht
      obtain ⟨u, hu, hc⟩ := hv
      refine closed_more (S := Ly ws own free (c + 2)) he (fun _ _ h hx => h.closed hx) ⟨fun _ => t2, fun _ => t1⟩ ?_ hc
      rcases hu with hu | hu
      · exact (ih.1 u hu).up
      · exact ⟨u, .inr (hu.mono hfr ih.1), .refl⟩
    · have hn : ¬ (Ly ws own free c we.1 ∨ Ly ws own free c we.2) := fun h => ht (h.imp Ly.up Ly.up)
      have h2 : ∀ v, Ly ws (own ||| (1 <<< e)) (without free e) (c + 1) v → Ly ws own free (c + 1) v := by
        rintro v ⟨u, hu, hc⟩
        refine closed_more (S := Ly ws own free (c + 1)) he (fun _ _ h hx => h.closed hx) ⟨fun h => (ht (.inl h)).elim, fun h => (ht (.inr h)).elim⟩ ?_ hc
        rcases hu with hu | hu
        · exact (ih.2 hn u hu).up
        · exact ⟨u, .inr (hu.mono hfr (ih.2 hn)), .refl⟩
      exact ⟨fun v hv => (h2 v hv).up, fun _ => h2⟩
end

/-! ### what is reckoned are the layers -/
theorem Conn.lt {nodes : Nat} {ws : List (Nat × Nat)} (hn : NetN nodes ws) {S u v : Nat} (hu : u < nodes) (h : Conn ws S u v) : v < nodes := by
  cases h with
  | refl => exact hu
  | fwd _ hw _ _ => exact (hn.2.2.2 _ (List.mem_of_getElem? hw)).2.1
  | bwd _ hw _ _ => exact (hn.2.2.2 _ (List.mem_of_getElem? hw)).1

section
variable {nodes : Nat} {ws : List (Nat × Nat)} (hn : NetN nodes ws) {own free : Nat}
include hn
theorem Ly.lt {c v : Nat} (h : Ly ws own free c v) : v < nodes := by
  have := hn.1
  exact Conn.lt hn (by omega) h.conn
end

end Go.Proofs.YtbmmcldbllhhhaaDoor

/- Rules to walk through a function's plain form with what is to hold in the end: binds, conditions, guards, comparisons, numbers, calls and loops. -/
set_option maxRecDepth 20000
namespace Go.Proofs.YtbmmcldbllhhhaaDoor
open Go Go.Ip G

/-- The result is there, and Q holds of it. -/
def W (x : Res) (Q : PV → PHeap → Prop) : Prop := ∃ v h', x = some (v, h') ∧ Q v h'

section
variable {α : Type} {Q Q' : PV → PHeap → Prop} {P : Program} {t : TypeId} {k : IntKind}

theorem W.ret {v : PV} {h : PHeap} (hq : Q v h) : W (some (v, h)) Q := ⟨v, h, rfl, hq⟩
theorem W.mono {x : Res} (hx : W x Q') (hf : ∀ v h, Q' v h → Q v h) : W x Q := by
  obtain ⟨v, h, e, q⟩ := hx; exact ⟨v, h, e, hf v h q⟩
theorem W.of {x : Res} {v : PV} {h : PHeap} (hx : x = some (v, h)) (hq : Q v h) : W x Q := ⟨v, h, hx, hq⟩
theorem wbd {x : Option α} {v : α} {f : α → Res} (hx : x = some v) (hf : W (f v) Q) : W (x.bind f) Q := by rw [hx]; exact hf
theorem wcall {x : Res} {f : PV × PHeap → Res} (hx : W x Q') (hf : ∀ v h, Q' v h → W (f (v, h)) Q) : W (x.bind f) Q := by
  obtain ⟨v, h, e, q⟩ := hx; rw [e]; exact hf v h q
theorem wT {x y : Res} (h : W x Q) : W (condP (.bool true) x y) Q := h
theorem wF {x y : Res} (h : W y Q) : W (condP (.bool false) x y) Q := h
theorem wg1 {b u : Bool} {x y : Option α} {f : α → Res} (hb : b = u) (hx : W (x.bind f) Q) : W ((wantV (.bool b) u).bind fun v => (bif v then x else y).bind f) Q := by
  subst hb; simpa using hx
theorem wg0 {b u : Bool} {x y : Option α} {f : α → Res} (hb : b = !u) (hy : W (y.bind f) Q) : W ((wantV (.bool b) u).bind fun v => (bif v then x else y).bind f) Q := by
  subst hb; cases u <;> simpa using hy
theorem wgu {u : Bool} {x y : Option α} {f : α → Res} (hy : W (y.bind f) Q) : W ((wantV (.tup []) u).bind fun v => (bif v then x else y).bind f) Q := by simpa using hy
theorem wpT {u v : PV} {f : PV → Res} (h : W (f u) Q) : W ((pickP (.bool true) u v).bind f) Q := h
theorem wpF {u v : PV} {f : PV → Res} (h : W (f v) Q) : W ((pickP (.bool false) u v).bind f) Q := h
theorem wnT {f : PV → Res} (h : W (f (.bool false)) Q) : W ((unP .not (.bool true)).bind f) Q := h
theorem wnF {f : PV → Res} (h : W (f (.bool true)) Q) : W ((unP .not (.bool false)).bind f) Q := h
theorem wpv {x : Option PV} {h : PHeap} {f : PV × PHeap → Res} (hx : W (x.bind fun v => f (v, h)) Q) : W ((pv h x).bind f) Q := by
  cases x <;> exact hx
theorem wsm {v : α} {f : α → Res} (h : W (f v) Q) : W ((some v).bind f) Q := h
theorem wrI {a : Int} {f : PV → Res} (h : W (f (.int k a)) Q) : W ((resV (.int k a)).bind f) Q := h
theorem wrB {a : Bool} {f : PV → Res} (h : W (f (.bool a)) Q) : W ((resV (.bool a)).bind f) Q := h
theorem wrN {f : PV → Res} (h : W (f .nilsl) Q) : W ((resV .nilsl).bind f) Q := h
theorem wx0 {a : PV} {l : List PV} {f : PV → Res} (h : W (f a) Q) : W ((extractP (.tup (a :: l)) 0).bind f) Q := h
theorem wx1 {a b : PV} {l : List PV} {f : PV → Res} (h : W (f b) Q) : W ((extractP (.tup (a :: b :: l)) 1).bind f) Q := h
theorem wx2 {a b c : PV} {l : List PV} {f : PV → Res} (h : W (f c) Q) : W ((extractP (.tup (a :: b :: c :: l)) 2).bind f) Q := h
theorem wck {b : Bool} {x : Res} (hb : b = true) (h : W x Q) : W (ckP b x) Q := by rw [hb]; exact h
/-! ### comparisons -/
section
variable {a b : Int} {f : PV → Res}
theorem wlssT (h : a < b) (hf : W (f (.bool true)) Q) : W ((binP P .lss t (.int k a) (.int k b)).bind f) Q := wbd (by rw [bin_lss, decide_eq_true h]) hf
theorem wlssF (h : ¬ a < b) (hf : W (f (.bool false)) Q) : W ((binP P .lss t (.int k a) (.int k b)).bind f) Q := wbd (by rw [bin_lss, decide_eq_false h]) hf
theorem wleqT (h : a ≤ b) (hf : W (f (.bool true)) Q) : W ((binP P .leq t (.int k a) (.int k b)).bind f) Q := wbd (by rw [bin_leq, decide_eq_true h]) hf
theorem wleqF (h : ¬ a ≤ b) (hf : W (f (.bool false)) Q) : W ((binP P .leq t (.int k a) (.int k b)).bind f) Q := wbd (by rw [bin_leq, decide_eq_false h]) hf
theorem wgtrT (h : b < a) (hf : W (f (.bool true)) Q) : W ((binP P .gtr t (.int k a) (.int k b)).bind f) Q := wbd (by rw [bin_gtr, decide_eq_true h]) hf
theorem wgtrF (h : ¬ b < a) (hf : W (f (.bool false)) Q) : W ((binP P .gtr t (.int k a) (.int k b)).bind f) Q := wbd (by rw [bin_gtr, decide_eq_false h]) hf
theorem wgeqT (h : b ≤ a) (hf : W (f (.bool true)) Q) : W ((binP P .geq t (.int k a) (.int k b)).bind f) Q := wbd (by rw [bin_geq, decide_eq_true h]) hf
theorem wgeqF (h : ¬ b ≤ a) (hf : W (f (.bool false)) Q) : W ((binP P .geq t (.int k a) (.int k b)).bind f) Q := wbd (by rw [bin_geq, decide_eq_false h]) hf
theorem weqlT (h : a = b) (hf : W (f (.bool true)) Q) : W ((binP P .eql t (.int k a) (.int k b)).bind f) Q := wbd (by rw [bin_eql, beq_iff_eq.2 h]) hf
theorem weqlF (h : ¬ a = b) (hf : W (f (.bool false)) Q) : W ((binP P .eql t (.int k a) (.int k b)).bind f) Q := wbd (by rw [bin_eql, beq_eq_false_iff_ne.2 h]) hf
theorem wneqT (h : ¬ a = b) (hf : W (f (.bool true)) Q) : W ((binP P .neq t (.int k a) (.int k b)).bind f) Q := wbd (by rw [bin_neq, bne, beq_eq_false_iff_ne.2 h]; rfl) hf
theorem wneqF (h : a = b) (hf : W (f (.bool false)) Q) : W ((binP P .neq t (.int k a) (.int k b)).bind f) Q := wbd (by rw [bin_neq, bne, beq_iff_eq.2 h]; rfl) hf
theorem weql (h1 : a = b → W (f (.bool true)) Q) (h2 : ¬ a = b → W (f (.bool false)) Q) : W ((binP P .eql t (.int k a) (.int k b)).bind f) Q := by
  by_cases e : a = b
  · exact weqlT e (h1 e)
  · exact weqlF e (h2 e)
theorem wneq (h1 : ¬ a = b → W (f (.bool true)) Q) (h2 : a = b → W (f (.bool false)) Q) : W ((binP P .neq t (.int k a) (.int k b)).bind f) Q := by
  by_cases e : a = b
  · exact wneqF e (h2 e)
  · exact wneqT e (h1 e)
end

/-! ### numbers -/
section
variable {a b : Int} {x y : Nat} {f : PV → Res}
theorem wadd (h : -4611686018427387904 ≤ a + b ∧ a + b ≤ 4611686018427387904) (hf : W (f (.int .i64 (a + b))) Q) : W ((binP P .add t (.int .i64 a) (.int .i64 b)).bind f) Q := wbd (by rw [bin_add, wr (by omega)]) hf
theorem wsub (h : -4611686018427387904 ≤ a - b ∧ a - b ≤ 4611686018427387904) (hf : W (f (.int .i64 (a - b))) Q) : W ((binP P .sub t (.int .i64 a) (.int .i64 b)).bind f) Q := wbd (by rw [bin_sub, wr (by omega)]) hf
theorem wmul (h : -4611686018427387904 ≤ a * b ∧ a * b ≤ 4611686018427387904) (hf : W (f (.int .i64 (a * b))) Q) : W ((binP P .mul t (.int .i64 a) (.int .i64 b)).bind f) Q := wbd (by rw [bin_mul, wr (by omega)]) hf
theorem wadd1 (h : x < 4611686018427387904) (hf : W (f (.int .i64 ((x + 1 : Nat) : Int))) Q) : W ((binP P .add t (.int .i64 (x : Int)) (.int .i64 1)).bind f) Q := wbd (by rw [bin_add, wr (by omega)]; rfl) hf
theorem waddN (h : x + y < 4611686018427387904) (hf : W (f (.int .i64 ((x + y : Nat) : Int))) Q) : W ((binP P .add t (.int .i64 (x : Int)) (.int .i64 (y : Int))).bind f) Q := wbd (by rw [bin_add, wr (by omega)]; rfl) hf
theorem wsub1 (h : 1 ≤ x) (h2 : x < 4611686018427387904) (hf : W (f (.int .i64 ((x - 1 : Nat) : Int))) Q) : W ((binP P .sub t (.int .i64 (x : Int)) (.int .i64 1)).bind f) Q := wbd (by rw [bin_sub, wr (by omega), show (x : Int) - 1 = ((x - 1 : Nat) : Int) by omega]) hf
end
end

section
variable {Q : PV → PHeap → Prop} {x y : Nat} {f : PV → Res}
theorem wremN (h : 1 ≤ y) (hf : W (f (.int .i64 ((x % y : Nat) : Int))) Q) : W ((binP Tryd.prog .rem 3 (.int .i64 (x : Int)) (.int .i64 (y : Int))).bind f) Q := wbd (f_rem x y h) hf
theorem wrem2 (hf : W (f (.int .i64 ((x % 2 : Nat) : Int))) Q) : W ((binP Tryd.prog .rem 3 (.int .i64 (x : Int)) (.int .i64 2)).bind f) Q := wbd (f_rem x 2 (by decide)) hf
theorem wshl (h : y ≤ 30) (hf : W (f (.int .i64 ((1 <<< y : Nat) : Int))) Q) : W ((binP Tryd.prog .shl 3 (.int .i64 1) (.int .i64 (y : Int))).bind f) Q := wbd (f_shl y h) hf
theorem wshr (h : y ≤ 60) (hf : W (f (.int .i64 ((x >>> y : Nat) : Int))) Q) : W ((binP Tryd.prog .shr 3 (.int .i64 (x : Int)) (.int .i64 (y : Int))).bind f) Q := wbd (f_shr x y h) hf
theorem wand (hx : x < 2 ^ 62) (hy : y < 2 ^ 62) (hf : W (f (.int .i64 ((x &&& y : Nat) : Int))) Q) : W ((binP Tryd.prog .and 3 (.int .i64 (x : Int)) (.int .i64 (y : Int))).bind f) Q := wbd (f_and hx hy) hf
theorem wor (hx : x < 2 ^ 62) (hy : y < 2 ^ 62) (hf : W (f (.int .i64 ((x ||| y : Nat) : Int))) Q) : W ((binP Tryd.prog .or 3 (.int .i64 (x : Int)) (.int .i64 (y : Int))).bind f) Q := wbd (f_or hx hy) hf

/-- What is in x, and not in y. -/
def minusN (x y : Nat) : Nat := x ^^^ (x &&& y)
theorem minusN_bit (x y j : Nat) : (minusN x y).testBit j = (x.testBit j && !y.testBit j) := by
  unfold minusN; rw [Nat.testBit_xor, Nat.testBit_and]; cases x.testBit j <;> cases y.testBit j <;> rfl
theorem minusN_lt {x y n : Nat} (hx : x < 2 ^ n) : minusN x y < 2 ^ n := Nat.lt_of_le_of_lt (sub_le fun j hj => by rw [minusN_bit, Bool.and_eq_true] at hj; exact hj.1) hx
theorem minusN_one (x k : Nat) : minusN x (1 <<< k) = without x k := rfl

theorem f_andNot (hx : x < 2 ^ 62) (hy : y < 2 ^ 62) : binP Tryd.prog .andNot 3 (.int .i64 (x : Int)) (.int .i64 (y : Int)) = some (.int .i64 ((minusN x y : Nat) : Int)) := by
  have e1 : BitVec.ofInt 64 (x : Int) = BitVec.ofNat 64 x := by rw [BitVec.ofInt_natCast]
  have e2 : BitVec.ofInt 64 (y : Int) = BitVec.ofNat 64 y := by rw [BitVec.ofInt_natCast]
  have e3 : (BitVec.ofNat 64 x &&& ~~~(BitVec.ofNat 64 y)).toNat = minusN x y := by
    apply Nat.eq_of_testBit_eq
    intro j
    rw [minusN_bit, ← BitVec.getLsbD, BitVec.getLsbD_and, BitVec.getLsbD_not, BitVec.getLsbD_ofNat, BitVec.getLsbD_ofNat]
    by_cases hj : j < 64
    · simp [hj]
    · have : x.testBit j = false := Nat.testBit_lt_two_pow (Nat.lt_of_lt_of_le hx (Nat.pow_le_pow_right (by decide) (by omega)))
      simp [hj, this]
  show binI .andNot .i64 (x : Int) (y : Int) = _
  have hl : minusN x y < 2 ^ 62 := minusN_lt hx
  show some (PV.int .i64 (IntKind.i64.wrap ((BitVec.ofInt 64 (x : Int) &&& ~~~(BitVec.ofInt 64 (y : Int))).toNat))) = _
  rw [e1, e2, e3, wr (by omega)]
theorem wandNot (hx : x < 2 ^ 62) (hy : y < 2 ^ 62) (hf : W (f (.int .i64 ((minusN x y : Nat) : Int))) Q) : W ((binP Tryd.prog .andNot 3 (.int .i64 (x : Int)) (.int .i64 (y : Int))).bind f) Q := wbd (f_andNot hx hy) hf

/-! ### slices of integers -/
variable {h : PHeap} {p : PV} {xs : List Int}
theorem wlen (s : IntSl .i64 h p xs) (hf : W (f (.int .i64 (xs.length : Int))) Q) : W ((lenP Tryd.prog 31 p).bind f) Q := wbd s.len' hf
/-- An element is read. -/
theorem wat (s : IntSl .i64 h p xs) {i : Nat} (hi : i < xs.length) (hf : ∀ a, loadP Tryd.prog 3 a h = some (.int .i64 xs[i]) → W (f a) Q) : W ((indexAddrP Tryd.prog 31 p (.int .i64 (i : Int))).bind f) Q := by
  obtain ⟨a, e, l⟩ := s.at' hi; exact wbd e (hf a l)
theorem wresO {n : Nat} (s : OwnSl n h p xs) (hf : W (f p) Q) : W ((resV p).bind f) Q := wbd s.res hf
/-- One element is appended. -/
theorem wap {n : Nat} (s : OwnSl n h p xs) (hn : n ≤ h.length) {x : Int} (hl : xs.length + 1 ≤ 2 ^ 36) {F : PV × PHeap → Res}
    (hf : ∀ p' h', OwnSl n h' p' (xs ++ [x]) → Keep n h h' → W (F (p', h')) Q) :
    W ((buildSliceP Tryd.prog 31 1 [(0, .int .i64 x)] h).bind fun v => (appendP Tryd.prog 31 31 p v.1 v.2).bind F) Q := by
  obtain ⟨v, p', h', e1, e2, o, k⟩ := s.append hn x hl
  exact wbd e1 (wbd e2 (hf p' h' o k))
/-- A slice is made. -/
theorem wmake {m : Nat} (hm : m ≤ 2 ^ 36) {F : PV × PHeap → Res} (hf : ∀ p h', OwnSl h.length h' p (List.replicate m 0) → Keep h.length h h' → W (F (p, h')) Q) :
    W ((makeP Tryd.prog 31 (.int .i64 (m : Int)) (.int .i64 (m : Int)) h).bind F) Q := by
  obtain ⟨p, h', e, o, k⟩ := made (h := h) hm; exact wbd e (hf p h' o k)
theorem wempty {F : PV × PHeap → Res} (hf : ∀ p h', OwnSl h.length h' p [] → Keep h.length h h' → W (F (p, h')) Q) : W ((buildSliceP Tryd.prog 31 0 [] h).bind F) Q := by
  obtain ⟨p, h', e, o, k⟩ := empty_lit (h := h); exact wbd e (hf p h' o k)
end

/-! ### loops -/
theorem loopW {f : St → (PX → St → Res) → Res} {k : PX → St → Res} {Q : PV → PHeap → Prop} (I : Nat → St → Prop)
    (step : ∀ n m s, I m s → (∀ m' s', m' < m → I m' s' → W (kLoop f n k .normal s') Q) → W (f s (kLoop f n k)) Q) : ∀ (fuel m : Nat) (s : St), m < fuel → I m s → W (loopK f fuel s k) Q
  | 0, m, s, hm, _ => by omega
  | n + 1, m, s, hm, hI => by
    rw [loopK_succ]
    exact step n m s hI fun m' s' hm' hI' => by rw [kLoop_normal]; exact loopW I step n m' s' (by omega) hI'

/-- A list that whatever changes behind mark b leaves as it is. -/
def Fix (b : Nat) (h : PHeap) (p : PV) (xs : List Int) : Prop := ∀ h', Keep b h h' → IntSl .i64 h' p xs
theorem Fix.now {b : Nat} {h : PHeap} {p : PV} {xs : List Int} (s : Fix b h p xs) : IntSl .i64 h p xs := s h (Keep.refl _ _)
theorem Fix.keep {b : Nat} {h h' : PHeap} {p : PV} {xs : List Int} (s : Fix b h p xs) (k : Keep b h h') : Fix b h' p xs := fun h2 k2 => s h2 (k.trans k2)
theorem IntSl.fix {h : PHeap} {p : PV} {xs : List Int} (s : IntSl .i64 h p xs) : Fix h.length h p xs := fun _ k => s.keep k
theorem Fix.mono {b b' : Nat} {h : PHeap} {p : PV} {xs : List Int} (s : Fix b h p xs) (hb : b ≤ b') : Fix b' h p xs := fun h2 k2 => s h2 (k2.mono hb)

end Go.Proofs.YtbmmcldbllhhhaaDoor

/- The laws of chapter 2 over what the program's functions are asked to compute: the draws, the exact laws, and promise 9. -/
set_option maxRecDepth 20000
namespace Go.Proofs.YtbmmcldbllhhhaaDoor
open Go Go.Ip G

def TabT (g : Nat → PV) (h : PHeap) : Prop := Tab64 g h
theorem TabT.keep {g : Nat → PV} {h h' : PHeap} (t : TabT g h) (k : Keep h.length h h') : TabT g h' := Tab64.keep t k
def TabOk (g : Nat → PV) (h : PHeap) : Prop := TabT g h
theorem TabOk.keep {g : Nat → PV} {h h' : PHeap} (t : TabOk g h) (k : Keep h.length h h') : TabOk g h' := TabT.keep t k

variable (g : Nat → PV) (lf n : Nat)

/-! ### the exact laws -/
/-! ### the draws -/
end Go.Proofs.YtbmmcldbllhhhaaDoor

/- Promises 11, 12, 13 and 14 over what the program's functions are asked to compute. -/
set_option maxRecDepth 20000
namespace Go.Proofs.YtbmmcldbllhhhaaDoor
open Go Go.Ip G

/-! ### more facts on positions -/
variable (g : Nat → PV) (lf n : Nat)

/-! ### promise 12 -/
end Go.Proofs.YtbmmcldbllhhhaaDoor

/- Promises 13 and 14 over what the program's functions are asked to compute. -/
set_option maxRecDepth 20000
namespace Go.Proofs.YtbmmcldbllhhhaaDoor
open Go Go.Ip G

/-! ### the cells that close a gap -/
variable (g : Nat → PV) (lf n : Nat)

/-! ### gaps of free boards, and mirrored -/
end Go.Proofs.YtbmmcldbllhhhaaDoor

/- Promises 10 and 15 over what the program's functions are asked to compute. -/
set_option maxRecDepth 20000
namespace Go.Proofs.YtbmmcldbllhhhaaDoor
open Go Go.Ip G

/-! ### lists of sets -/
/-! ### masks -/
/-! ### groups -/
variable (g : Nat → PV) (lf n : Nat)

theorem loadAt {xs : List Int} {p a : PV} {h : PHeap} {i : Nat} (hp : IntSl .i64 h p xs) (hi : i < xs.length) (ha : indexAddrP Tryd.prog 31 p (.int .i64 (i : Int)) = some a) : loadP Tryd.prog 3 a h = some (.int .i64 xs[i]) := by
  obtain ⟨a', ha', hla⟩ := hp.at' hi
  obtain rfl : a = a' := Option.some.inj (ha.symm.trans ha')
  exact hla

end Go.Proofs.YtbmmcldbllhhhaaDoor

/- Promise 15 over what the program's functions are asked to compute. -/
set_option maxRecDepth 20000
namespace Go.Proofs.YtbmmcldbllhhhaaDoor
open Go Go.Ip G

/-! ### sides -/
variable (g : Nat → PV) (lf n : Nat)

end Go.Proofs.YtbmmcldbllhhhaaDoor

/- What chapter 3's functions tell of a position (moveL, playedL, winL, winCellsL, lineL), and what holds of them. No program text. -/
set_option maxRecDepth 20000
namespace Go.Proofs.YtbmmcldbllhhhaaDoor
open Go Go.Ip G

/-! ### none -/
theorem playerB_of {P : Nat} (hP : P = 1 ∨ P = 2) : playerB (P : Int) = true := by rcases hP with rfl | rfl <;> rfl
/-! ### sets -/
section
variable {R C : Nat} {xs : List Int} (hb : posB (R : Int) (C : Int) xs = true) (hS : Sides (R : Int) (C : Int) R C xs)
include hS
omit hS
include hb
include hS
end

/-! ### turned, mirrored -/
section
variable {R C : Nat} {xs : List Int} (hb : posB (R : Int) (C : Int) xs = true) (hS : Sides (R : Int) (C : Int) R C xs)
include hb hS
end

/-! ### moves -/
/-! ### winning cells -/
section
variable {R C : Nat} {xs : List Int} (hb : posB (R : Int) (C : Int) xs = true) (hS : Sides (R : Int) (C : Int) R C xs)
include hb hS
omit hb hS
include hb hS
end

/-! ### played on -/
section
variable {R C : Nat} {xs : List Int} (hb : posB (R : Int) (C : Int) xs = true) (hS : Sides (R : Int) (C : Int) R C xs)
include hb hS
end

end Go.Proofs.YtbmmcldbllhhhaaDoor

/- The model's table of who wins: each position has a place of its own in it. No program text. -/
set_option maxRecDepth 20000
namespace Go.Proofs.YtbmmcldbllhhhaaDoor
open Go Go.Ip G

/-- The place of a position, from its first k cells: the same number as the model reckons. -/
def keyF (a b : Nat) : Nat → Nat
  | 0 => 0
  | k + 1 => 3 * keyF a b k + (a >>> k % 2) + 2 * (b >>> k % 2)

theorem digit_le {R C a b : Nat} (h : Pos R C a b) (k : Nat) : a >>> k % 2 + 2 * (b >>> k % 2) ≤ 2 := by
  have h1 := bit_iff a k
  have h2 := bit_iff b k
  rcases Nat.mod_two_eq_zero_or_one (a >>> k) with e1 | e1 <;> rcases Nat.mod_two_eq_zero_or_one (b >>> k) with e2 | e2
  · omega
  · omega
  · omega
  · exact (h.2.2 k (h1.1 e1) (h2.1 e2)).elim
theorem key_lt {R C a b : Nat} (h : Pos R C a b) : ∀ k, keyF a b k < 3 ^ k
  | 0 => Nat.zero_lt_one
  | k + 1 => by
    have ih := key_lt h k
    have hd := digit_le h k
    rw [keyF, Nat.pow_succ]; omega
theorem key_inj {R C a b a' b' : Nat} (h : Pos R C a b) (h' : Pos R C a' b') : ∀ k, keyF a b k = keyF a' b' k → ∀ i, i < k → a.testBit i = a'.testBit i ∧ b.testBit i = b'.testBit i
  | 0, _, i, hi => by omega
  | k + 1, he, i, hi => by
    have hd := digit_le h k
    have hd' := digit_le h' k
    rw [keyF, keyF] at he
    have e1 : keyF a b k = keyF a' b' k := by omega
    have e2 : a >>> k % 2 = a' >>> k % 2 ∧ b >>> k % 2 = b' >>> k % 2 := by
      have := Nat.mod_two_eq_zero_or_one (a >>> k); have := Nat.mod_two_eq_zero_or_one (a' >>> k); omega
    by_cases hik : i = k
    · subst hik
      have t : ∀ x y : Nat, x >>> i % 2 = y >>> i % 2 → x.testBit i = y.testBit i := fun x y e => by
        rw [Bool.eq_iff_iff, ← bit_iff, ← bit_iff, e]
      exact ⟨t _ _ e2.1, t _ _ e2.2⟩
    · exact key_inj h h' k e1 i (by omega)
theorem key_pos {R C a b a' b' : Nat} (h : Pos R C a b) (h' : Pos R C a' b') (he : keyF a b (R * C) = keyF a' b' (R * C)) : a = a' ∧ b = b' := by
  have hk := key_inj h h' _ he
  have t : ∀ x y : Nat, x < 2 ^ (R * C) → y < 2 ^ (R * C) → (∀ i, i < R * C → x.testBit i = y.testBit i) → x = y := fun x y hx hy hxy => by
    apply Nat.eq_of_testBit_eq
    intro j
    by_cases hj : j < R * C
    · exact hxy j hj
    · have e1 : x.testBit j = false := Nat.testBit_lt_two_pow (Nat.lt_of_lt_of_le hx (Nat.pow_le_pow_right (by decide) (by omega)))
      have e2 : y.testBit j = false := Nat.testBit_lt_two_pow (Nat.lt_of_lt_of_le hy (Nat.pow_le_pow_right (by decide) (by omega)))
      rw [e1, e2]
  exact ⟨t _ _ h.1 h'.1 fun i hi => (hk i hi).1, t _ _ h.2.1 h'.2.1 fun i hi => (hk i hi).2⟩

def keyN (R C a b t : Nat) : Nat := 2 * keyF a b (R * C) + (t - 1)
/-- What the table holds: nothing, or who wins. -/
def Inv (R C : Nat) (T : List Int) : Prop := T.length = 2 * 3 ^ (R * C) ∧ ∀ a b t, Pos R C a b → (t = 1 ∨ t = 2) → T[keyN R C a b t]? = some 0 ∨ T[keyN R C a b t]? = some ((winN R C a b t : Nat) : Int)

theorem keyN_lt {R C a b t : Nat} (h : Pos R C a b) (ht : t = 1 ∨ t = 2) : keyN R C a b t < 2 * 3 ^ (R * C) := by
  have := key_lt h (R * C); unfold keyN; omega
theorem Inv.new (R C : Nat) : Inv R C (List.replicate (2 * 3 ^ (R * C)) 0) := by
  refine ⟨List.length_replicate, fun a b t h ht => .inl ?_⟩
  rw [List.getElem?_replicate, if_pos (keyN_lt h ht)]
theorem Inv.put {R C a b t : Nat} {T : List Int} (hi : Inv R C T) (h : Pos R C a b) (ht : t = 1 ∨ t = 2) : Inv R C (T.set (keyN R C a b t) ((winN R C a b t : Nat) : Int)) := by
  refine ⟨by rw [List.length_set]; exact hi.1, fun a' b' t' h' ht' => ?_⟩
  rw [List.getElem?_set]
  by_cases e : keyN R C a b t = keyN R C a' b' t'
  · right
    rw [if_pos e, if_pos (by rw [hi.1]; exact keyN_lt h ht)]
    unfold keyN at e
    have e1 : keyF a b (R * C) = keyF a' b' (R * C) := by omega
    have e2 : t = t' := by omega
    obtain ⟨rfl, rfl⟩ := key_pos h h' e1
    rw [e2]
  · rw [if_neg e]; exact hi.2 a' b' t' h' ht'
theorem Inv.get {R C a b t : Nat} {T : List Int} (hi : Inv R C T) (h : Pos R C a b) (ht : t = 1 ∨ t = 2) : ∃ hl : keyN R C a b t < T.length, T[keyN R C a b t] = 0 ∨ T[keyN R C a b t] = ((winN R C a b t : Nat) : Int) := by
  have hl : keyN R C a b t < T.length := by rw [hi.1]; exact keyN_lt h ht
  refine ⟨hl, ?_⟩
  have := hi.2 a b t h ht
  rw [List.getElem?_eq_getElem hl] at this
  exact this.imp Option.some.inj Option.some.inj

end Go.Proofs.YtbmmcldbllhhhaaDoor

/- Nets as lists, and the model's table of a game in which both take cells. No program text. -/
set_option maxRecDepth 20000
namespace Go.Proofs.YtbmmcldbllhhhaaDoor
open Go Go.Ip G

theorem gdigit_le {n a b : Nat} (h : gPos n a b) (k : Nat) : a >>> k % 2 + 2 * (b >>> k % 2) ≤ 2 := by
  have h1 := bit_iff a k
  have h2 := bit_iff b k
  rcases Nat.mod_two_eq_zero_or_one (a >>> k) with e1 | e1 <;> rcases Nat.mod_two_eq_zero_or_one (b >>> k) with e2 | e2
  · omega
  · omega
  · omega
  · exact (h.2.2 k (h1.1 e1) (h2.1 e2)).elim
theorem gkey_lt {n a b : Nat} (h : gPos n a b) : ∀ k, keyF a b k < 3 ^ k
  | 0 => Nat.zero_lt_one
  | k + 1 => by
    have ih := gkey_lt h k
    have hd := gdigit_le h k
    rw [keyF, Nat.pow_succ]; omega
theorem gkey_inj {n a b a' b' : Nat} (h : gPos n a b) (h' : gPos n a' b') : ∀ k, keyF a b k = keyF a' b' k → ∀ i, i < k → a.testBit i = a'.testBit i ∧ b.testBit i = b'.testBit i
  | 0, _, i, hi => by omega
  | k + 1, he, i, hi => by
    have hd := gdigit_le h k
    have hd' := gdigit_le h' k
    rw [keyF, keyF] at he
    have e1 : keyF a b k = keyF a' b' k := by omega
    have e2 : a >>> k % 2 = a' >>> k % 2 ∧ b >>> k % 2 = b' >>> k % 2 := by
      have := Nat.mod_two_eq_zero_or_one (a >>> k); have := Nat.mod_two_eq_zero_or_one (a' >>> k); omega
    by_cases hik : i = k
    · subst hik
      have t : ∀ x y : Nat, x >>> i % 2 = y >>> i % 2 → x.testBit i = y.testBit i := fun x y e => by
        rw [Bool.eq_iff_iff, ← bit_iff, ← bit_iff, e]
      exact ⟨t _ _ e2.1, t _ _ e2.2⟩
    · exact gkey_inj h h' k e1 i (by omega)
theorem gkey_pos {n a b a' b' : Nat} (h : gPos n a b) (h' : gPos n a' b') (he : keyF a b (n) = keyF a' b' (n)) : a = a' ∧ b = b' := by
  have hk := gkey_inj h h' _ he
  have t : ∀ x y : Nat, x < 2 ^ (n) → y < 2 ^ (n) → (∀ i, i < n → x.testBit i = y.testBit i) → x = y := fun x y hx hy hxy => by
    apply Nat.eq_of_testBit_eq
    intro j
    by_cases hj : j < n
    · exact hxy j hj
    · have e1 : x.testBit j = false := Nat.testBit_lt_two_pow (Nat.lt_of_lt_of_le hx (Nat.pow_le_pow_right (by decide) (by omega)))
      have e2 : y.testBit j = false := Nat.testBit_lt_two_pow (Nat.lt_of_lt_of_le hy (Nat.pow_le_pow_right (by decide) (by omega)))
      rw [e1, e2]
  exact ⟨t _ _ h.1 h'.1 fun i hi => (hk i hi).1, t _ _ h.2.1 h'.2.1 fun i hi => (hk i hi).2⟩


def gkeyN (n a b t : Nat) : Nat := 2 * keyF a b (n) + (t - 1)
/-- What the table holds: nothing, or who wins. -/
def GInv (n : Nat) (J1 J2 : Nat → Bool) (T : List Int) : Prop := T.length = 2 * 3 ^ (n) ∧ ∀ a b t, gPos n a b → (t = 1 ∨ t = 2) → T[gkeyN n a b t]? = some 0 ∨ T[gkeyN n a b t]? = some ((gWin n J1 J2 a b t : Nat) : Int)

theorem gkeyN_lt {n a b t : Nat} (h : gPos n a b) (ht : t = 1 ∨ t = 2) : gkeyN n a b t < 2 * 3 ^ (n) := by
  have := gkey_lt h (n); unfold gkeyN; omega
theorem GInv.new (n : Nat) (J1 J2 : Nat → Bool) : GInv n J1 J2 (List.replicate (2 * 3 ^ (n)) 0) := by
  refine ⟨List.length_replicate, fun a b t h ht => .inl ?_⟩
  rw [List.getElem?_replicate, if_pos (gkeyN_lt h ht)]
theorem GInv.put {n a b t : Nat} {J1 J2 : Nat → Bool} {T : List Int} (hi : GInv n J1 J2 T) (h : gPos n a b) (ht : t = 1 ∨ t = 2) : GInv n J1 J2 (T.set (gkeyN n a b t) ((gWin n J1 J2 a b t : Nat) : Int)) := by
  refine ⟨by rw [List.length_set]; exact hi.1, fun a' b' t' h' ht' => ?_⟩
  rw [List.getElem?_set]
  by_cases e : gkeyN n a b t = gkeyN n a' b' t'
  · right
    rw [if_pos e, if_pos (by rw [hi.1]; exact gkeyN_lt h ht)]
    unfold gkeyN at e
    have e1 : keyF a b (n) = keyF a' b' (n) := by omega
    have e2 : t = t' := by omega
    obtain ⟨rfl, rfl⟩ := gkey_pos h h' e1
    rw [e2]
  · rw [if_neg e]; exact hi.2 a' b' t' h' ht'
theorem GInv.get {n a b t : Nat} {J1 J2 : Nat → Bool} {T : List Int} (hi : GInv n J1 J2 T) (h : gPos n a b) (ht : t = 1 ∨ t = 2) : ∃ hl : gkeyN n a b t < T.length, T[gkeyN n a b t] = 0 ∨ T[gkeyN n a b t] = ((gWin n J1 J2 a b t : Nat) : Int) := by
  have hl : gkeyN n a b t < T.length := by rw [hi.1]; exact gkeyN_lt h ht
  refine ⟨hl, ?_⟩
  have := hi.2 a b t h ht
  rw [List.getElem?_eq_getElem hl] at this
  exact this.imp Option.some.inj Option.some.inj

/-! ### nets as lists -/
def castW (vs : List (Nat × Nat)) : List (Int × Int) := vs.map fun w => ((w.1 : Int), (w.2 : Int))
def natW (ws : List (Int × Int)) : List (Nat × Nat) := ws.map fun w => (w.1.toNat, w.2.toNat)
theorem castW_length (vs : List (Nat × Nat)) : (castW vs).length = vs.length := List.length_map ..
theorem natW_length (ws : List (Int × Int)) : (natW ws).length = ws.length := List.length_map ..
theorem castW_get {vs : List (Nat × Nat)} {i : Nat} (hi : i < (castW vs).length) (hi' : i < vs.length) : (castW vs)[i] = ((vs[i].1 : Int), (vs[i].2 : Int)) := by simp [castW]
/-- A wire between two different nodes. -/
def goodW (nodes : Int) (w : Int × Int) : Bool := decide (0 ≤ w.1 ∧ w.1 < nodes ∧ 0 ≤ w.2 ∧ w.2 < nodes ∧ w.1 ≠ w.2)
def wiresB (nodes : Int) (ws : List (Int × Int)) : Bool := ws.all (goodW nodes) && (decide (2 ≤ nodes ∧ nodes ≤ 5) && decide (ws.length ≤ 8))
theorem wires_of {nodes : Int} {ws : List (Int × Int)} (h : wiresB nodes ws = true) : ∃ N : Nat, nodes = (N : Int) ∧ ws = castW (natW ws) ∧ NetN N (natW ws) := by
  unfold wiresB at h
  rw [Bool.and_eq_true, Bool.and_eq_true, decide_eq_true_eq, decide_eq_true_eq] at h
  obtain ⟨h1, h2, h3⟩ := h
  obtain ⟨N, rfl⟩ := Int.eq_ofNat_of_zero_le (show 0 ≤ nodes by omega)
  have hg : ∀ w ∈ ws, 0 ≤ w.1 ∧ w.1 < (N : Int) ∧ 0 ≤ w.2 ∧ w.2 < (N : Int) ∧ w.1 ≠ w.2 := fun w hw => of_decide_eq_true (List.all_eq_true.1 h1 w hw)
  refine ⟨N, rfl, ?_, by omega, by omega, by rw [natW_length]; exact h3, fun w hw => ?_⟩
  · symm
    unfold castW natW
    rw [List.map_map]
    refine (List.map_congr_left (g := id) fun w hw => ?_).trans (List.map_id _)
    obtain ⟨a, b⟩ := w
    have := hg _ hw
    show (((a.toNat : Nat) : Int), ((b.toNat : Nat) : Int)) = (a, b)
    rw [Int.toNat_of_nonneg this.1, Int.toNat_of_nonneg this.2.2.1]
  · unfold natW at hw
    rw [List.mem_map] at hw
    obtain ⟨x, hx, rfl⟩ := hw
    have := hg x hx
    refine ⟨?_, ?_, fun e => ?_⟩
    · show x.1.toNat < N; omega
    · show x.2.toNat < N; omega
    · have e' : x.1.toNat = x.2.toNat := e
      omega
/-- Who has won, by the sets of both. -/
def doneN (vs : List (Nat × Nat)) (a b : Nat) : Nat := if linkW vs a = true then 1 else if cutW vs b = true then 2 else 0
def linksL (nodes : Int) (ws : List (Int × Int)) (set : Int) : Bool := wiresB nodes ws && decide (0 ≤ set ∧ set < ((2 ^ ws.length : Nat) : Int)) && linkW (natW ws) set.toNat
def ownersB (nodes : Int) (ws : List (Int × Int)) (os : List Int) : Bool := os.all contentB && (wiresB nodes ws && decide (os.length = ws.length))
def wwinL (nodes : Int) (ws : List (Int × Int)) (os : List Int) (t : Int) : Int := if (ownersB nodes ws os && playerB t) = true then ((gWin ws.length (linkW (natW ws)) (cutW (natW ws)) (setL os 1) (setL os 2) t.toNat : Nat) : Int) else 0
end Go.Proofs.YtbmmcldbllhhhaaDoor

/- Slices of wires (pairs of integers) on the interpreter's heap: how they are read, made, written and appended to. -/
set_option maxRecDepth 20000
namespace Go.Proofs.YtbmmcldbllhhhaaDoor
open Go Go.Ip G

/-- The cells of a list of wires. -/
def wc : List (Int × Int) → List PV
  | [] => []
  | w :: l => .int .i64 w.1 :: .int .i64 w.2 :: wc l
theorem wc_length : ∀ ws, (wc ws).length = 2 * ws.length
  | [] => rfl
  | w :: l => by rw [wc, List.length_cons, List.length_cons, wc_length l, List.length_cons]; omega
theorem wc_append : ∀ a b, wc (a ++ b) = wc a ++ wc b
  | [], _ => rfl
  | w :: l, b => by rw [List.cons_append, wc, wc, wc_append l b]; rfl
theorem wc_at : ∀ (ws : List (Int × Int)) (i : Nat) (hi : i < ws.length), (wc ws)[i * 2]? = some (.int .i64 ws[i].1) ∧ (wc ws)[i * 2 + 1]? = some (.int .i64 ws[i].2)
  | [], _, h => by simp at h
  | w :: l, 0, _ => ⟨rfl, rfl⟩
  | w :: l, i + 1, h => by
    have := wc_at l i (by simpa using h)
    rw [wc, show (i + 1) * 2 = i * 2 + 1 + 1 by omega]
    exact this
theorem wc_set0 : ∀ (ws : List (Int × Int)) (i : Nat) (x : Int) (hi : i < ws.length), (wc ws).set (i * 2) (.int .i64 x) = wc (ws.set i (x, ws[i].2))
  | [], _, _, h => by simp at h
  | w :: l, 0, _, _ => rfl
  | w :: l, i + 1, x, h => by
    have := wc_set0 l i x (by simpa using h)
    rw [wc, show (i + 1) * 2 = i * 2 + 1 + 1 by omega, List.set_cons_succ, List.set_cons_succ, this]
    rfl
theorem wc_set1 : ∀ (ws : List (Int × Int)) (i : Nat) (x : Int) (hi : i < ws.length), (wc ws).set (i * 2 + 1) (.int .i64 x) = wc (ws.set i (ws[i].1, x))
  | [], _, _, h => by simp at h
  | w :: l, 0, _, _ => rfl
  | w :: l, i + 1, x, h => by
    have := wc_set1 l i x (by simpa using h)
    rw [wc, show (i + 1) * 2 + 1 = i * 2 + 1 + 1 + 1 by omega, List.set_cons_succ, List.set_cons_succ, this]
    rfl

/-- A slice of wires. -/
def WSl (h : PHeap) (p : PV) (ws : List (Int × Int)) : Prop :=
  (p = .nilsl ∧ ws = []) ∨ ∃ id off, p = .sl id off ws.length ∧ (off = 0 ∨ ws ≠ []) ∧ ∀ i x, (wc ws)[i]? = some x → (cellsAt h id)[off + i]? = some x
theorem WSl.keep {h h' : PHeap} {p : PV} {ws : List (Int × Int)} (s : WSl h p ws) (hk : Keep h.length h h') : WSl h' p ws := by
  rcases s with s | ⟨id, off, hp, hz, hc⟩
  · exact .inl s
  · exact .inr ⟨id, off, hp, hz, fun i x hx => by rw [cellsAt_keep hk (lt_of_cell (hc i x hx))]; exact hc i x hx⟩
theorem WSl.plain1 {h : PHeap} {p : PV} {ws : List (Int × Int)} (s : WSl h p ws) : plain1 p p = true := by
  rcases s with ⟨rfl, _⟩ | ⟨id, off, rfl, hz, _⟩
  · rfl
  · have h0 : off = 0 ∨ 0 < ws.length := hz.imp (fun e => e) fun e => List.length_pos_iff.2 e
    simp only [Ip.plain1, decide_true, Bool.true_and, Bool.or_eq_true, decide_eq_true_eq]
    exact h0
/-- One that the call itself made, from object n on. -/
def OwnW (n : Nat) (h : PHeap) (p : PV) (ws : List (Int × Int)) : Prop :=
  (p = .nilsl ∧ ws = []) ∨ ∃ id, n ≤ id ∧ p = .sl id 0 ws.length ∧ h[id]? = some (.own 2 (wc ws))
theorem OwnW.sl {n : Nat} {h : PHeap} {p : PV} {ws : List (Int × Int)} (s : OwnW n h p ws) : WSl h p ws := by
  rcases s with s | ⟨id, _, hp, ho⟩
  · exact .inl s
  · refine .inr ⟨id, 0, hp, .inl rfl, fun i x hx => ?_⟩
    simp [cellsAt, ho, PObj.get, hx]
theorem OwnW.mono {n m : Nat} {h : PHeap} {p : PV} {ws : List (Int × Int)} (s : OwnW n h p ws) (hm : m ≤ n) : OwnW m h p ws := by
  rcases s with s | ⟨id, h1, h2⟩
  · exact .inl s
  · exact .inr ⟨id, by omega, h2⟩
theorem OwnW.keep {n : Nat} {h h' : PHeap} {p : PV} {ws : List (Int × Int)} (s : OwnW n h p ws) (hk : Keep h.length h h') : OwnW n h' p ws := by
  rcases s with s | ⟨id, h1, h2, h3⟩
  · exact .inl s
  · exact .inr ⟨id, h1, h2, by rw [hk.2 id (List.getElem?_eq_some_iff.1 h3).1]; exact h3⟩
theorem OwnW.nil (n : Nat) (h : PHeap) : OwnW n h .nilsl [] := .inl ⟨rfl, rfl⟩
/-- A list of wires that whatever changes behind mark b leaves as it is. -/
def FixW (b : Nat) (h : PHeap) (p : PV) (ws : List (Int × Int)) : Prop := ∀ h', Keep b h h' → WSl h' p ws
theorem FixW.now {b : Nat} {h : PHeap} {p : PV} {ws : List (Int × Int)} (s : FixW b h p ws) : WSl h p ws := s h (Keep.refl _ _)
theorem FixW.keep {b : Nat} {h h' : PHeap} {p : PV} {ws : List (Int × Int)} (s : FixW b h p ws) (k : Keep b h h') : FixW b h' p ws := fun h2 k2 => s h2 (k.trans k2)
theorem WSl.fix {h : PHeap} {p : PV} {ws : List (Int × Int)} (s : WSl h p ws) : FixW h.length h p ws := fun _ k => s.keep k
theorem FixW.mono {b b' : Nat} {h : PHeap} {p : PV} {ws : List (Int × Int)} (s : FixW b h p ws) (hb : b ≤ b') : FixW b' h p ws := fun h2 k2 => s h2 (k2.mono hb)
theorem FixW.get {b : Nat} {h h' : PHeap} {p : PV} {ws : List (Int × Int)} (s : FixW b h p ws) (k : Keep b h h') : WSl h' p ws := s h' k

theorem twS : Tryd.prog.underlying 23 = some (.slice 41) := by kernel_rfl
theorem twSize : sizeT Tryd.prog 41 = some 2 := by kernel_rfl
theorem twAgg : isAggT Tryd.prog 41 = some true := by kernel_rfl
theorem twElem : elemT Tryd.prog 23 = some 41 := by kernel_rfl
theorem twZero : zeroCellsT Tryd.prog 41 = some [.int .i64 0, .int .i64 0] := by kernel_rfl
theorem twSmall : smallT Tryd.prog 41 = true := by kernel_rfl
theorem twB (a b : Int) : buildP Tryd.prog 41 [(0, .int .i64 a), (1, .int .i64 b)] = some (.agg [.int .i64 a, .int .i64 b]) := by kernel_rfl

theorem twFA (id off : Nat) : fieldAddrP Tryd.prog 41 (.ptr id off) 0 = some (.ptr id (off + 0)) := by kernel_rfl
theorem twFB (id off : Nat) : fieldAddrP Tryd.prog 41 (.ptr id off) 1 = some (.ptr id (off + 1)) := by kernel_rfl

section
variable {Q : PV → PHeap → Prop} {h : PHeap} {p : PV} {ws : List (Int × Int)}
theorem WSl.len (s : WSl h p ws) : lenP Tryd.prog 23 p = some (.int .i64 ws.length) := by
  rcases s with ⟨rfl, rfl⟩ | ⟨id, off, rfl, hz, hc⟩ <;> simp [lenP, twS]
/-- A wire's place, and what is read there. -/
theorem WSl.at (s : WSl h p ws) {i : Nat} (hi : i < ws.length) : ∃ id off, indexAddrP Tryd.prog 23 p (.int .i64 (i : Int)) = some (.ptr id off) ∧
    loadP Tryd.prog 41 (.ptr id off) h = some (.agg [.int .i64 ws[i].1, .int .i64 ws[i].2]) ∧
    loadP Tryd.prog 3 (.ptr id (off + 0)) h = some (.int .i64 ws[i].1) ∧ loadP Tryd.prog 3 (.ptr id (off + 1)) h = some (.int .i64 ws[i].2) := by
  rcases s with ⟨rfl, rfl⟩ | ⟨id, off, rfl, hz, hc⟩
  · simp at hi
  · obtain ⟨h0, h1⟩ := wc_at ws i hi
    have c0 := hc _ _ h0
    have c1 := hc _ _ h1
    refine ⟨id, off + i * 2, ?_, ?_, ?_, ?_⟩
    · simp [indexAddrP, twS, twSize, hi]
    · simp only [loadP, twAgg, twSize]
      have hl := (List.getElem?_eq_some_iff.1 c1).1
      rw [if_pos (by omega)]
      congr 2
      obtain ⟨_, c0⟩ := List.getElem?_eq_some_iff.1 c0
      obtain ⟨_, c1⟩ := List.getElem?_eq_some_iff.1 c1
      rw [List.drop_eq_getElem_cons (by omega), List.drop_eq_getElem_cons (by omega)]
      simp only [List.take_succ_cons, List.take_zero]
      rw [c0]
      congr 2
    · simp only [loadP, tyAgg, Nat.add_zero]; exact c0
    · simp only [loadP, tyAgg, Nat.add_assoc]; exact c1
theorem wfa0 {id off : Nat} {f : PV → Res} (hf : W (f (.ptr id (off + 0))) Q) : W ((fieldAddrP Tryd.prog 41 (.ptr id off) 0).bind f) Q := wbd (twFA id off) hf
theorem wfa1 {id off : Nat} {f : PV → Res} (hf : W (f (.ptr id (off + 1))) Q) : W ((fieldAddrP Tryd.prog 41 (.ptr id off) 1).bind f) Q := wbd (twFB id off) hf
theorem wbw {a b : Int} {f : PV → Res} (hf : W (f (.agg [.int .i64 a, .int .i64 b])) Q) : W ((buildP Tryd.prog 41 [(0, .int .i64 a), (1, .int .i64 b)]).bind f) Q := wbd (twB a b) hf
theorem wresW {n : Nat} (s : OwnW n h p ws) {f : PV → Res} (hf : W (f p) Q) : W ((resV p).bind f) Q := by
  rcases s with ⟨rfl, rfl⟩ | ⟨id, _, rfl, _⟩ <;> exact hf
/-- A wire of its own: an object of two cells. -/
def AtW (h : PHeap) (id : Nat) (a b : Int) : Prop := h[id]? = some (.own 1 [.int .i64 a, .int .i64 b])
theorem AtW.lt {id : Nat} {a b : Int} (s : AtW h id a b) : id < h.length := (List.getElem?_eq_some_iff.1 s).1
theorem AtW.keep {h' : PHeap} {id : Nat} {a b : Int} (s : AtW h id a b) (k : Keep h.length h h') : AtW h' id a b := by unfold AtW; rw [k.2 id s.lt]; exact s
theorem AtW.l0 {id : Nat} {a b : Int} (s : AtW h id a b) : loadP Tryd.prog 3 (.ptr id (0 + 0)) h = some (.int .i64 a) := by
  simp only [loadP, tyAgg, cellsAt]; rw [show h[id]? = _ from s]; rfl
theorem AtW.l1 {id : Nat} {a b : Int} (s : AtW h id a b) : loadP Tryd.prog 3 (.ptr id (0 + 1)) h = some (.int .i64 b) := by
  simp only [loadP, tyAgg, cellsAt]; rw [show h[id]? = _ from s]; rfl
theorem AtW.all {id : Nat} {a b : Int} (s : AtW h id a b) : loadP Tryd.prog 41 (.ptr id 0) h = some (.agg [.int .i64 a, .int .i64 b]) := by
  have hc : cellsAt h id = [.int .i64 a, .int .i64 b] := by unfold cellsAt; rw [show h[id]? = _ from s]; rfl
  simp only [loadP, twAgg, twSize, hc]; rfl
theorem walW {F : PV × PHeap → Res} (hf : ∀ h' id, AtW h' id 0 0 → Keep h.length h h' → h.length ≤ id → W (F (.ptr id 0, h')) Q) : W ((allocP Tryd.prog 41 h).bind F) Q := by
  have : allocP Tryd.prog 41 h = some (.ptr h.length 0, h ++ [.own 1 [.int .i64 0, .int .i64 0]]) := by unfold allocP; rw [twZero]; rfl
  exact wbd this (hf _ _ (by unfold AtW; simp) (Keep.append _ _ _ (Nat.le_refl _)) (Nat.le_refl _))
/-- The whole wire is written. -/
theorem wstW {id n : Nat} {a b x y : Int} (s : AtW h id x y) (hn : n ≤ id) {F : PHeap → Res} (hf : ∀ h', AtW h' id a b → Keep n h h' → h'.length = h.length → W (F h') Q) : W ((storeP Tryd.prog 41 (.ptr id 0) (.agg [.int .i64 a, .int .i64 b]) h).bind F) Q := by
  have hl := s.lt
  have : storeP Tryd.prog 41 (.ptr id 0) (.agg [.int .i64 a, .int .i64 b]) h = some (h.set id (.own 1 [.int .i64 a, .int .i64 b])) := by
    simp only [storeP]; rw [show h[id]? = _ from s, twSize]; rfl
  exact wbd this (hf _ (by unfold AtW; rw [List.getElem?_set_self hl]) (Keep.set _ _ _ _ hn) (by simp))
/-- A wire of a slice is written: whole, or one of its ends. -/
theorem OwnW.store {n : Nat} (s : OwnW n h p ws) {i : Nat} (hi : i < ws.length) : ∃ id, n ≤ id ∧ indexAddrP Tryd.prog 23 p (.int .i64 (i : Int)) = some (.ptr id (i * 2)) ∧
    (∀ a b, ∃ h', storeP Tryd.prog 41 (.ptr id (i * 2)) (.agg [.int .i64 a, .int .i64 b]) h = some h' ∧ OwnW n h' p (ws.set i (a, b)) ∧ Keep n h h' ∧ h'.length = h.length) ∧
    (∀ a, ∃ h', storeP Tryd.prog 3 (.ptr id (i * 2 + 0)) (.int .i64 a) h = some h' ∧ OwnW n h' p (ws.set i (a, ws[i].2)) ∧ Keep n h h' ∧ h'.length = h.length) ∧
    (∀ b, ∃ h', storeP Tryd.prog 3 (.ptr id (i * 2 + 1)) (.int .i64 b) h = some h' ∧ OwnW n h' p (ws.set i (ws[i].1, b)) ∧ Keep n h h' ∧ h'.length = h.length) := by
  rcases s with ⟨rfl, rfl⟩ | ⟨id, h1, rfl, h3⟩
  · simp at hi
  · have hid : id < h.length := (List.getElem?_eq_some_iff.1 h3).1
    have hwl := wc_length ws
    refine ⟨id, h1, by simp [indexAddrP, twS, twSize, hi], fun a b => ?_, fun a => ?_, fun b => ?_⟩
    · refine ⟨h.set id (.own 2 (wc (ws.set i (a, b)))), ?_, .inr ⟨id, h1, by simp, by rw [List.getElem?_set_self hid]⟩, Keep.set _ _ _ _ h1, by simp⟩
      have e1 := wc_set0 ws i a hi
      have e2 := wc_set1 (ws.set i (a, ws[i].2)) i b (by rw [List.length_set]; exact hi)
      rw [← e1, List.getElem_set_self, List.set_set] at e2
      simp only [storeP, h3, twSize]
      show (if 2 = 2 ∧ i * 2 + 2 ≤ (wc ws).length then some (h.set id (.own 2 (setCells (wc ws) (i * 2) [.int .i64 a, .int .i64 b]))) else none) = _
      rw [if_pos ⟨rfl, by omega⟩]
      simp only [setCells]
      rw [e2]
    · refine ⟨h.set id (.own 2 (wc (ws.set i (a, ws[i].2)))), ?_, .inr ⟨id, h1, by simp, by rw [List.getElem?_set_self hid]⟩, Keep.set _ _ _ _ h1, by simp⟩
      simp only [storeP, h3, tySize]
      show (if 1 = 1 ∧ i * 2 + 0 + 1 ≤ (wc ws).length then some (h.set id (.own 2 (setCells (wc ws) (i * 2 + 0) [.int .i64 a]))) else none) = _
      rw [if_pos ⟨rfl, by omega⟩]
      simp only [setCells, Nat.add_zero]
      rw [wc_set0 ws i a hi]
    · refine ⟨h.set id (.own 2 (wc (ws.set i (ws[i].1, b)))), ?_, .inr ⟨id, h1, by simp, by rw [List.getElem?_set_self hid]⟩, Keep.set _ _ _ _ h1, by simp⟩
      simp only [storeP, h3, tySize]
      show (if 1 = 1 ∧ i * 2 + 1 + 1 ≤ (wc ws).length then some (h.set id (.own 2 (setCells (wc ws) (i * 2 + 1) [.int .i64 b]))) else none) = _
      rw [if_pos ⟨rfl, by omega⟩]
      simp only [setCells]
      rw [wc_set1 ws i b hi]
theorem wemptyW {F : PV × PHeap → Res} (hf : ∀ p h', OwnW h.length h' p [] → Keep h.length h h' → W (F (p, h')) Q) : W ((buildSliceP Tryd.prog 23 0 [] h).bind F) Q := by
  refine wbd (v := (.sl h.length 0 0, h ++ [.own 2 []])) ?_ (hf _ _ (.inr ⟨h.length, Nat.le_refl _, rfl, by simp [wc]⟩) (Keep.append _ _ _ (Nat.le_refl _)))
  simp [buildSliceP, twElem, twSize, twZero, repeatCells, fillP]
/-- One wire is appended. -/
theorem wapW {n : Nat} (s : OwnW n h p ws) (hn : n ≤ h.length) {a b : Int} (hl : ws.length + 1 ≤ 2 ^ 36) {F : PV × PHeap → Res}
    (hf : ∀ p' h', OwnW n h' p' (ws ++ [(a, b)]) → Keep n h h' → W (F (p', h')) Q) :
    W ((buildSliceP Tryd.prog 23 1 [(0, .agg [.int .i64 a, .int .i64 b])] h).bind fun v => (appendP Tryd.prog 23 23 p v.1 v.2).bind F) Q := by
  have hb : buildSliceP Tryd.prog 23 1 [(0, .agg [.int .i64 a, .int .i64 b])] h = some (.sl h.length 0 1, h ++ [.own 2 [.int .i64 a, .int .i64 b]]) := by
    simp [buildSliceP, twElem, twSize, twZero, repeatCells, fillP, PV.cells, PV.oneCell, setCells]
  have hsrc : srcP (h ++ [.own 2 [.int .i64 a, .int .i64 b]]) 2 (.sl h.length 0 1) = some (1, [.int .i64 a, .int .i64 b]) := by
    simp [srcP, cellsAt, PObj.get]
  refine wbd hb ?_
  rcases s with ⟨rfl, rfl⟩ | ⟨id, h1, rfl, h3⟩
  · refine wbd (v := (.sl (h.length + 1) 0 1, h ++ [.own 2 [.int .i64 a, .int .i64 b]] ++ [.own 2 [.int .i64 a, .int .i64 b]])) ?_ (hf _ _ (.inr ⟨h.length + 1, by omega, rfl, ?_⟩) ?_)
    · simp [appendP, twElem, twSize, twSmall, hsrc]
    · rw [List.getElem?_append_right (by simp)]; simp [wc]
    · rw [List.append_assoc]; exact Keep.append _ _ _ hn
  · have hid : id < h.length := (List.getElem?_eq_some_iff.1 h3).1
    have h3' : (h ++ [PObj.own 2 [.int .i64 a, .int .i64 b]])[id]? = some (.own 2 (wc ws)) := by rw [List.getElem?_append_left hid]; exact h3
    refine wbd (v := (.sl (h.length + 1) 0 (ws.length + 1), ((h ++ [PObj.own 2 [.int .i64 a, .int .i64 b]]).set id .dead ++ [PObj.own 2 (wc ws ++ [.int .i64 a, .int .i64 b])]))) ?_ (hf _ _ (.inr ⟨h.length + 1, by omega, by simp, ?_⟩) ?_)
    · have := wc_length ws
      simp [appendP, twElem, twSize, twSmall, hsrc, h3', hl, this, Nat.mul_comm]
    · rw [List.getElem?_append_right (by simp)]; simp [wc_append, wc]
    · exact ((Keep.append n h _ hn).trans (Keep.set n _ id .dead h1)).trans (Keep.append _ _ _ (by simp; omega))
end

end Go.Proofs.YtbmmcldbllhhhaaDoor

/- The model's chapter 3: what MoveOk, Played, WinnerOf, WinningCells and LinePlayed of it compute. -/
set_option maxRecDepth 20000
namespace Go.Proofs.YtbmmcldbllhhhaaDoor
open Go Go.Ip G

variable (g : Nat → PV) (lf n : Nat)

/-! ### the solver -/
end Go.Proofs.YtbmmcldbllhhhaaDoor

/- The model's chapter 9, first part: nets, what is come to, links, owners and who has won. -/
set_option maxRecDepth 20000
namespace Go.Proofs.YtbmmcldbllhhhaaDoor
open Go Go.Ip G

section
variable {Q : PV → PHeap → Prop} {x : Nat} {f : PV → Res}
end
theorem bit_zero {x k : Nat} (h : x.testBit k = false) : x >>> k % 2 = 0 := by
  have := bit_iff x k
  rw [h] at this
  have h2 : ¬ x >>> k % 2 = 1 := fun e => by cases this.1 e
  omega
theorem bit_same {x a b : Nat} : x >>> a % 2 = x >>> b % 2 ↔ x.testBit a = x.testBit b := by
  cases e1 : x.testBit a with
  | true =>
    rw [(bit_iff x a).2 e1]
    cases e2 : x.testBit b with
    | true => rw [(bit_iff x b).2 e2]; simp
    | false => rw [bit_zero e2]; simp
  | false =>
    rw [bit_zero e1]
    cases e2 : x.testBit b with
    | true => rw [(bit_iff x b).2 e2]; simp
    | false => rw [bit_zero e2]; simp

variable (g : Nat → PV) (lf n : Nat)

theorem specWiresOk_calls {ws : List (Int × Int)} {p : PV} {h : PHeap} (N : Nat) (hN : 3 ≤ N) (nodes : Int) (hp : WSl h p ws) (hl : ws.length ≤ 2 ^ 35) (hf : ws.length < lf) :
    ∃ h', CL g lf N fn_spec_WiresOk [.int .i64 nodes, p] h = some (.bool (wiresB nodes ws), h') ∧ Keep h.length h h' := by
  obtain ⟨n, rfl⟩ : ∃ n, N = n + 1 := ⟨N - 1, by omega⟩
  have : W (CL g lf (n + 1) fn_spec_WiresOk [.int .i64 nodes, p] h) fun v h' => v = .bool (wiresB nodes ws) ∧ Keep h.length h h' := by
    rw [spec_WiresOk.call_eq]
    unfold spec_WiresOk.main
    simp only [env_lf]
    refine loopW (fun m s => ∃ (k : Nat) (h1 : PHeap), s = spec_WiresOk.st0 (.int .i64 nodes) p (.int .i64 (k : Int)) h1 ∧ k + m = ws.length ∧ (ws.all (goodW nodes) = (ws.drop k).all (goodW nodes)) ∧ Keep h.length h h1) ?_ lf ws.length _ hf ⟨0, h, rfl, by omega, rfl, Keep.refl _ _⟩
    rintro n1 m s ⟨k, h1, rfl, hkm, hall, k1⟩ next
    have hp1 := hp.keep k1
    have hlen := hp1.len
    rw [spec_WiresOk.body0_eq]
    unfold spec_WiresOk.body0
    simp only [env_pick, env_alloc, env_load, env_store, env_bin, env_fieldAddr, env_indexAddr, env_len]
    cases m with
    | zero =>
      have hin : ∀ hh, CL g lf n fn_spec_l1In [.int .i64 nodes, .int .i64 2, .int .i64 5] hh = some (.bool (decide (2 ≤ nodes ∧ nodes ≤ 5)), hh) := fun hh => l1In_N g lf n (by omega) hh nodes 2 5
      have hin1 := hin h1
      rw [List.drop_eq_nil_of_le (by omega), List.all_nil] at hall
      cases hd : decide (2 ≤ nodes ∧ nodes ≤ 5) with
      | false =>
        rw [hd] at hin1
        repeat (first | with_reducible refine wF ?_ | with_reducible refine wg0 rfl ?_ | with_reducible refine wpF ?_ | with_reducible refine wsm ?_ | with_reducible refine wrB ?_ | with_reducible refine wbd (by assumption) ?_ | with_reducible refine wlssF (by omega) ?_ | rw [kLoop_exit] | rw [spec_WiresOk.after0_se0_0_1_5_10] | dsimp only | simp only [env_C, env_Y, env_g, env_lf, env_pick, env_alloc, env_box, env_build, env_buildSlice, env_load, env_store, env_ptr, env_bin, env_un, env_conv, env_make, env_slice, env_fieldAddr, env_field, env_indexAddr, env_index, env_extract, env_len, env_append, env_max, env_min, env_makeMap, env_lookup, env_update, env_clos, env_bstr])
        exact W.ret ⟨by unfold wiresB; rw [hall, hd]; rfl, k1⟩
      | true =>
        rw [hd] at hin1
        by_cases h8 : ws.length ≤ 8
        · repeat (first | with_reducible refine wF ?_ | with_reducible refine wg1 rfl ?_ | with_reducible refine wpT ?_ | with_reducible refine wpv ?_ | with_reducible refine wsm ?_ | with_reducible refine wrB ?_ | with_reducible refine wbd (by assumption) ?_ | with_reducible refine wlssF (by omega) ?_ | with_reducible refine wleqT (by omega) ?_ | rw [kLoop_exit] | rw [spec_WiresOk.after0_se0_0_1_5_10] | dsimp only | simp only [env_C, env_Y, env_g, env_lf, env_pick, env_alloc, env_box, env_build, env_buildSlice, env_load, env_store, env_ptr, env_bin, env_un, env_conv, env_make, env_slice, env_fieldAddr, env_field, env_indexAddr, env_index, env_extract, env_len, env_append, env_max, env_min, env_makeMap, env_lookup, env_update, env_clos, env_bstr])
          exact W.ret ⟨by unfold wiresB; rw [hall, hd, decide_eq_true h8]; rfl, k1⟩
        · repeat (first | with_reducible refine wF ?_ | with_reducible refine wg1 rfl ?_ | with_reducible refine wpT ?_ | with_reducible refine wpv ?_ | with_reducible refine wsm ?_ | with_reducible refine wrB ?_ | with_reducible refine wbd (by assumption) ?_ | with_reducible refine wlssF (by omega) ?_ | with_reducible refine wleqF (by omega) ?_ | rw [kLoop_exit] | rw [spec_WiresOk.after0_se0_0_1_5_10] | dsimp only | simp only [env_C, env_Y, env_g, env_lf, env_pick, env_alloc, env_box, env_build, env_buildSlice, env_load, env_store, env_ptr, env_bin, env_un, env_conv, env_make, env_slice, env_fieldAddr, env_field, env_indexAddr, env_index, env_extract, env_len, env_append, env_max, env_min, env_makeMap, env_lookup, env_update, env_clos, env_bstr])
          exact W.ret ⟨by unfold wiresB; rw [hall, hd, decide_eq_false h8]; rfl, k1⟩
    | succ m =>
      have hk : k < ws.length := by omega
      have hdx : ws.drop k = ws[k] :: ws.drop (k + 1) := List.drop_eq_getElem_cons hk
      obtain ⟨id, off, e0, l0, _, _⟩ := hp1.at hk
      obtain ⟨⟨A, B⟩, hw⟩ : ∃ w, w = ws[k] := ⟨_, rfl⟩
      rw [← hw] at l0 hdx
      rw [hdx, List.all_cons] at hall
      repeat (first | with_reducible refine wT ?_ | with_reducible refine wbd (by assumption) ?_ | (refine walW fun h2 i2 a2 k2 ii2 => ?_) | (refine wstW a2 ii2 fun h3 a3 k3 hl3 => ?_) | with_reducible refine wlssT (by omega) ?_ | dsimp only)
      have l3 := a3.l0
      have l4 := a3.l1
      have K3 : Keep h.length h h3 := k1.trans ((k2.trans k3).mono k1.1)
      have done : ∀ b, goodW nodes (A, B) = b → (b = false → W (spec_WiresOk.K0 (env g lf n) (kTop Tryd.prog Tryd.f17) .ret (spec_WiresOk.sr_4 (.bool false) h3)) fun v h' => v = .bool (wiresB nodes ws) ∧ Keep h.length h h') := by
        intro b hb hbf
        rw [hb, hbf, Bool.false_and] at hall
        rw [spec_WiresOk.K0_ret, spec_WiresOk.top_sr_4]
        repeat (first | with_reducible refine wrB ?_)
        exact W.ret ⟨by unfold wiresB; rw [hall]; rfl, K3⟩
      by_cases c1 : A < 0
      · repeat (first | with_reducible refine wT ?_ | with_reducible refine wg0 rfl ?_ | with_reducible refine wpT ?_ | with_reducible refine wsm ?_ | with_reducible refine wbd (by assumption) ?_ | (with_reducible refine wfa0 ?_) | with_reducible refine wlssT (by omega) ?_ | rw [kLoop_ret] | dsimp only)
        exact done false (decide_eq_false (fun hh => by have := hh.1; simp only at this; omega)) rfl
      · by_cases c2 : nodes ≤ A
        · repeat (first | with_reducible refine wT ?_ | with_reducible refine wg1 rfl ?_ | with_reducible refine wg0 rfl ?_ | with_reducible refine wpT ?_ | with_reducible refine wpF ?_ | with_reducible refine wpv ?_ | with_reducible refine wsm ?_ | with_reducible refine wbd (by assumption) ?_ | (with_reducible refine wfa0 ?_) | with_reducible refine wlssF (by omega) ?_ | with_reducible refine wgeqT (by omega) ?_ | rw [kLoop_ret] | dsimp only)
          exact done false (decide_eq_false (fun hh => by have := hh.2.1; simp only at this; omega)) rfl
        · by_cases c3 : B < 0
          · repeat (first | with_reducible refine wT ?_ | with_reducible refine wg1 rfl ?_ | with_reducible refine wg0 rfl ?_ | with_reducible refine wpT ?_ | with_reducible refine wpF ?_ | with_reducible refine wpv ?_ | with_reducible refine wsm ?_ | with_reducible refine wbd (by assumption) ?_ | (with_reducible refine wfa0 ?_) | (with_reducible refine wfa1 ?_) | with_reducible refine wlssT (by omega) ?_ | with_reducible refine wlssF (by omega) ?_ | with_reducible refine wgeqF (by omega) ?_ | rw [kLoop_ret] | dsimp only)
            exact done false (decide_eq_false (fun hh => by have := hh.2.2.1; simp only at this; omega)) rfl
          · by_cases c4 : nodes ≤ B
            · repeat (first | with_reducible refine wT ?_ | with_reducible refine wg1 rfl ?_ | with_reducible refine wg0 rfl ?_ | with_reducible refine wpT ?_ | with_reducible refine wpF ?_ | with_reducible refine wpv ?_ | with_reducible refine wsm ?_ | with_reducible refine wbd (by assumption) ?_ | (with_reducible refine wfa0 ?_) | (with_reducible refine wfa1 ?_) | with_reducible refine wlssF (by omega) ?_ | with_reducible refine wgeqT (by omega) ?_ | with_reducible refine wgeqF (by omega) ?_ | rw [kLoop_ret] | dsimp only)
              exact done false (decide_eq_false (fun hh => by have := hh.2.2.2.1; simp only at this; omega)) rfl
            · by_cases c5 : A = B
              · repeat (first | with_reducible refine wT ?_ | with_reducible refine wg1 rfl ?_ | with_reducible refine wpF ?_ | with_reducible refine wpv ?_ | with_reducible refine wsm ?_ | with_reducible refine wbd (by assumption) ?_ | (with_reducible refine wfa0 ?_) | (with_reducible refine wfa1 ?_) | with_reducible refine wlssF (by omega) ?_ | with_reducible refine wgeqF (by omega) ?_ | with_reducible refine weqlT (by omega) ?_ | rw [kLoop_ret] | dsimp only)
                exact done false (decide_eq_false (fun hh => hh.2.2.2.2 c5)) rfl
              · repeat (first | with_reducible refine wF ?_ | with_reducible refine wg1 rfl ?_ | with_reducible refine wpF ?_ | with_reducible refine wpv ?_ | with_reducible refine wsm ?_ | with_reducible refine wbd (by assumption) ?_ | (with_reducible refine wfa0 ?_) | (with_reducible refine wfa1 ?_) | with_reducible refine wadd1 (by omega) ?_ | with_reducible refine wlssF (by omega) ?_ | with_reducible refine wgeqF (by omega) ?_ | with_reducible refine weqlF (by omega) ?_ | dsimp only)
                refine next _ _ (Nat.lt_succ_self m) ⟨k + 1, h3, rfl, by omega, ?_, K3⟩
                have hg : goodW nodes (A, B) = true := decide_eq_true ⟨by simp only; omega, by simp only; omega, by simp only; omega, by simp only; omega, c5⟩
                rw [hall, hg, Bool.true_and]
  obtain ⟨_, h', e, rfl, k⟩ := this
  exact ⟨h', e, k⟩

/-! ### what is come to -/
theorem stepW_pass {set now0 : Nat} {vs : List (Nat × Nat)} {k now : Nat} (hk : k < vs.length) : stepW set (vs.drop k) k now = stepW set (vs.drop (k + 1)) (k + 1) (if (set.testBit k && (now.testBit vs[k].1 != now.testBit vs[k].2)) = true then now ||| (1 <<< vs[k].1) ||| (1 <<< vs[k].2) else now) := by
  rw [List.drop_eq_getElem_cons hk, stepW]
theorem reach_calls {nodes : Nat} {vs : List (Nat × Nat)} (hn : NetN nodes vs) {p : PV} {h : PHeap} (hp : WSl h p (castW vs)) {set u : Nat} (hset : set < 2 ^ 62) (hu : u < nodes) (N : Nat) (hN : 1 ≤ N) (hlf : 1000 < lf) :
    CL g lf N fn_spec_l9Reach [p, .int .i64 (set : Int), .int .i64 (u : Int)] h = some (.int .i64 ((reachW vs set u : Nat) : Int), h) := by
  obtain ⟨n, rfl⟩ : ∃ n, N = n + 1 := ⟨N - 1, by omega⟩
  have hlen := hp.len
  rw [castW_length] at hlen
  have hn5 := hn.2.1
  have hl8 := hn.2.2.1
  have h25 : 2 ^ nodes ≤ 2 ^ 5 := Nat.pow_le_pow_right (by decide) hn5
  have hone : 1 <<< u < 2 ^ nodes := by rw [Nat.one_shiftLeft]; exact Nat.pow_lt_pow_right (by decide) hu
  have hone1 : 1 ≤ 1 <<< u := by rw [Nat.one_shiftLeft]; exact Nat.one_le_two_pow
  have : W (CL g lf (n + 1) fn_spec_l9Reach [p, .int .i64 (set : Int), .int .i64 (u : Int)] h) fun v h' => v = .int .i64 ((reachW vs set u : Nat) : Int) ∧ h' = h := by
    rw [spec_l9Reach.call_eq]
    unfold spec_l9Reach.main
    simp only [env_lf, env_bin]
    repeat (first | with_reducible refine wshl (by omega) ?_)
    refine loopW (fun m s => ∃ (now : Nat) (again : Bool) (f : Nat), (s = spec_l9Reach.st0 p (.int .i64 (set : Int)) (.int .i64 (now : Int)) (.bool again) h ∨ ∃ x9 x16, s = spec_l9Reach.sn_0_1_7_8_9_16 p (.int .i64 (set : Int)) (.int .i64 (now : Int)) (.bool again) x9 x16 h) ∧ m = f + (if again = true then 1 else 0) ∧ now < 2 ^ nodes ∧ (again = true → 2 ^ nodes < now + f ∧ reachF vs set f now = reachW vs set u) ∧ (again = false → now = reachW vs set u)) ?_ lf 41 _ (by omega)
      ⟨1 <<< u, true, 40, .inl rfl, rfl, hone, fun _ => ⟨by omega, rfl⟩, fun hh => by cases hh⟩
    rintro n1 m s ⟨now, again, f, hs0, hm, hnow, hA, hB⟩ next
    have hbody : ∀ K, ev ((env g lf n).cx Tryd.prog spec_l9Reach.kl) spec_l9Reach.lp0 s K = spec_l9Reach.body0 (env g lf n) K p (.int .i64 (set : Int)) (.int .i64 (now : Int)) (.bool again) h := by
      intro K
      rcases hs0 with rfl | ⟨x9, x16, rfl⟩
      · exact spec_l9Reach.body0_eq _ _ _ _ _ _ _
      · exact spec_l9Reach.body0_sn_0_1_7_8_9_16 _ _ _ _ _ _ _ _ _
    rw [hbody]
    unfold spec_l9Reach.body0
    simp only [env_lf]
    cases again with
    | false =>
      repeat (first | with_reducible refine wF ?_ | with_reducible refine wrI ?_ | rw [kLoop_exit] | rw [spec_l9Reach.after0_se0_0_1_7_12])
      exact W.ret ⟨by rw [hB rfl], rfl⟩
    | true =>
      obtain ⟨hA1, hA2⟩ := hA rfl
      clear hB hA
      repeat (first | with_reducible refine wT ?_)
      refine loopW (fun m' s => ∃ (now' : Nat) (ag : Bool) (k : Nat), s = spec_l9Reach.st1 p (.int .i64 (set : Int)) (.int .i64 (now' : Int)) (.bool ag) (.int .i64 (k : Int)) h ∧ k + m' = vs.length ∧ now' < 2 ^ nodes ∧ stepW set (vs.drop k) k now' = stepW set vs 0 now ∧ (ag = false → now' = now) ∧ (ag = true → now < now')) ?_ lf vs.length _ (by omega)
        ⟨now, false, 0, rfl, by omega, hnow, rfl, fun _ => rfl, fun hh => by cases hh⟩
      rintro n2 m' s ⟨now', ag, k, rfl, hkm, hnow', hst, hg1, hg2⟩ next2
      rw [spec_l9Reach.body1_eq]
      unfold spec_l9Reach.body1
      simp only [env_pick, env_load, env_bin, env_fieldAddr, env_indexAddr, env_len]
      cases m' with
      | zero =>
        rw [List.drop_eq_nil_of_le (by omega), stepW] at hst
        obtain ⟨f, rfl⟩ : ∃ f', f = f' + 1 := ⟨f - 1, by omega⟩
        rw [reachF, ← hst] at hA2
        repeat (first | with_reducible refine wF ?_ | with_reducible refine wbd (by assumption) ?_ | with_reducible refine wlssF (by omega) ?_ | rw [kLoop_exit] | rw [spec_l9Reach.after1_se2_0_1_7_8_9_16])
        cases ag with
        | false =>
          rw [hg1 rfl, if_pos rfl] at hA2
          refine next _ _ ?_ ⟨now', false, f, .inr ⟨_, _, rfl⟩, rfl, hnow', (fun hh => by cases hh), fun _ => (hg1 rfl).trans hA2⟩
          simp only [if_true, Bool.false_eq_true, if_false] at hm ⊢; omega
        | true =>
          have := hg2 rfl
          rw [if_neg (by omega)] at hA2
          refine next _ _ ?_ ⟨now', true, f, .inr ⟨_, _, rfl⟩, rfl, hnow', fun _ => ⟨by omega, hA2⟩, fun hh => by cases hh⟩
          simp only [if_true] at hm ⊢; omega
      | succ m' =>
        have hk : k < vs.length := by omega
        have hkc : k < (castW vs).length := by rw [castW_length]; exact hk
        obtain ⟨id, off, e0, l0, l1, l2⟩ := hp.at hkc
        rw [castW_get hkc hk] at l0 l1 l2
        obtain ⟨⟨A, B⟩, hw⟩ : ∃ w, w = vs[k] := ⟨_, rfl⟩
        obtain ⟨b1, b2, b3⟩ := hn.2.2.2 vs[k] (List.getElem_mem hk)
        rw [stepW_pass (now0 := now) hk] at hst
        rw [← hw] at l0 l1 l2 b1 b2 b3 hst
        simp only at l0 l1 l2 b1 b2 b3 hst
        have oA : 1 <<< A < 2 ^ nodes := by rw [Nat.one_shiftLeft]; exact Nat.pow_lt_pow_right (by decide) b1
        have oB : 1 <<< B < 2 ^ nodes := by rw [Nat.one_shiftLeft]; exact Nat.pow_lt_pow_right (by decide) b2
        have hor1 : now' ||| 1 <<< A < 2 ^ nodes := Nat.or_lt_two_pow hnow' oA
        have hor2 : now' ||| 1 <<< A ||| 1 <<< B < 2 ^ nodes := Nat.or_lt_two_pow hor1 oB
        have stay : (set.testBit k && (now'.testBit A != now'.testBit B)) = false → W (kLoop (ev ((env g lf n).cx Tryd.prog spec_l9Reach.kl) spec_l9Reach.lp1) n2 (spec_l9Reach.K1 (env g lf n) (kLoop (ev ((env g lf n).cx Tryd.prog spec_l9Reach.kl) spec_l9Reach.lp0) n1 (spec_l9Reach.K0 (env g lf n) (kTop Tryd.prog Tryd.f56)))) .normal (spec_l9Reach.st1 p (.int .i64 (set : Int)) (.int .i64 (now' : Int)) (.bool ag) (.int .i64 ((k + 1 : Nat) : Int)) h)) fun v h' => v = .int .i64 ((reachW vs set u : Nat) : Int) ∧ h' = h := fun hh => by
          rw [if_neg (by rw [hh]; decide)] at hst
          exact next2 _ _ (Nat.lt_succ_self m') ⟨now', ag, k + 1, rfl, by omega, hnow', hst, hg1, hg2⟩
        cases hsb : set.testBit k with
        | false =>
          have z := bit_zero hsb
          repeat (first | with_reducible refine wT ?_ | with_reducible refine wg0 rfl ?_ | with_reducible refine wpT ?_ | with_reducible refine wsm ?_ | with_reducible refine wbd (by assumption) ?_ | with_reducible refine wadd1 (by omega) ?_ | with_reducible refine wrem2 ?_ | with_reducible refine wshr (by omega) ?_ | with_reducible refine wlssT (by omega) ?_ | with_reducible refine weqlT (by omega) ?_ | dsimp only)
          exact stay (by rw [hsb]; rfl)
        | true =>
          have z := (bit_iff set k).2 hsb
          by_cases hs : now'.testBit A = now'.testBit B
          · have z2 := bit_same.2 hs
            repeat (first | with_reducible refine wT ?_ | with_reducible refine wg1 rfl ?_ | with_reducible refine wpF ?_ | with_reducible refine wpv ?_ | with_reducible refine wsm ?_ | with_reducible refine wbd (by assumption) ?_ | (with_reducible refine wfa0 ?_) | (with_reducible refine wfa1 ?_) | with_reducible refine wadd1 (by omega) ?_ | with_reducible refine wrem2 ?_ | with_reducible refine wshr (by omega) ?_ | with_reducible refine wlssT (by omega) ?_ | with_reducible refine weqlT (by omega) ?_ | with_reducible refine weqlF (by omega) ?_ | dsimp only)
            exact stay (by rw [hsb, hs]; simp)
          · have z2 : ¬ now' >>> A % 2 = now' >>> B % 2 := fun e => hs (bit_same.1 e)
            rw [if_pos (by rw [hsb, Bool.true_and, bne_iff_ne]; exact hs)] at hst
            have hlt : now' < now' ||| 1 <<< A ||| 1 <<< B := by
              have hle : now' ≤ now' ||| 1 <<< A ||| 1 <<< B := Nat.le_trans Nat.left_le_or Nat.left_le_or
              have hne : now' ≠ now' ||| 1 <<< A ||| 1 <<< B := fun e => by
                have t1 : now'.testBit A = true := by rw [e, Nat.testBit_or, Nat.testBit_or, one_bit]; simp
                have t2 : now'.testBit B = true := by rw [e, Nat.testBit_or, Nat.testBit_or, one_bit, one_bit]; simp
                exact hs (by rw [t1, t2])
              omega
            repeat (first | with_reducible refine wT ?_ | with_reducible refine wF ?_ | with_reducible refine wg1 rfl ?_ | with_reducible refine wpF ?_ | with_reducible refine wpv ?_ | with_reducible refine wsm ?_ | with_reducible refine wbd (by assumption) ?_ | (with_reducible refine wfa0 ?_) | (with_reducible refine wfa1 ?_) | with_reducible refine wadd1 (by omega) ?_ | with_reducible refine wrem2 ?_ | with_reducible refine wshl (by omega) ?_ | with_reducible refine wshr (by omega) ?_ | with_reducible refine wor (by omega) (by omega) ?_ | with_reducible refine wlssT (by omega) ?_ | with_reducible refine weqlF (by omega) ?_ | dsimp only)
            refine next2 _ _ (Nat.lt_succ_self m') ⟨_, true, k + 1, rfl, by omega, hor2, hst, (fun hh => by cases hh), fun _ => ?_⟩
            cases ag with
            | false => rw [← hg1 rfl]; exact hlt
            | true => have := hg2 rfl; omega
  obtain ⟨_, _, e, rfl, rfl⟩ := this
  exact e

theorem reachW_lt {nodes : Nat} {vs : List (Nat × Nat)} (hn : NetN nodes vs) {set u : Nat} (hu : u < nodes) : reachW vs set u < 2 ^ nodes := by
  refine Nat.lt_of_le_of_lt (sub_le (b := 2 ^ nodes - 1) fun j hj => ?_) (by have := Nat.two_pow_pos nodes; omega)
  rw [Nat.testBit_two_pow_sub_one]
  exact decide_eq_true (Conn.lt hn hu ((reach_bit hn hu j).1 hj))

/-! ### links, owners, who has won -/
theorem owners_of {nodes : Int} {ws : List (Int × Int)} {os : List Int} (h : ownersB nodes ws os = true) : os.all contentB = true ∧ wiresB nodes ws = true ∧ os.length = ws.length := by
  unfold ownersB at h
  rw [Bool.and_eq_true, Bool.and_eq_true, decide_eq_true_eq] at h
  exact h
end Go.Proofs.YtbmmcldbllhhhaaDoor

/- The model's chapter 9, second part: who wins, which wires win, least links and cuts, the gap. -/
set_option maxRecDepth 20000
namespace Go.Proofs.YtbmmcldbllhhhaaDoor
open Go Go.Ip G

variable (g : Nat → PV) (lf n : Nat)

theorem wwinL_eq {nodes : Int} {ws : List (Int × Int)} {os : List Int} (hb : ownersB nodes ws os = true) {T : Nat} (hT : T = 1 ∨ T = 2) : wwinL nodes ws os (T : Int) = ((gWin (natW ws).length (linkW (natW ws)) (cutW (natW ws)) (setL os 1) (setL os 2) T : Nat) : Int) := by
  unfold wwinL; rw [hb, playerB_of hT, natW_length]; rfl
/-! ### wires that win -/
end Go.Proofs.YtbmmcldbllhhhaaDoor

/- The model's chapter 9, third part: least links and cuts, and the gap. -/
set_option maxRecDepth 20000
namespace Go.Proofs.YtbmmcldbllhhhaaDoor
open Go Go.Ip G

variable (g : Nat → PV) (lf n : Nat)

/-! ### the gap -/
end Go.Proofs.YtbmmcldbllhhhaaDoor

/- The draws of chapter 9: nodes, wires, owners, sets. -/
set_option maxRecDepth 20000
namespace Go.Proofs.YtbmmcldbllhhhaaDoor
open Go Go.Ip G

theorem OwnW.keepX {id n m : Nat} {h h' : PHeap} {p : PV} {ws : List (Int × Int)} (s : OwnW n h p ws) (hk : KeepX id m h h') (hn : id < n) (hm : h.length ≤ m) : OwnW n h' p ws := by
  rcases s with s | ⟨i, h1, h2, h3⟩
  · exact .inl s
  · have hi := (List.getElem?_eq_some_iff.1 h3).1
    exact .inr ⟨i, h1, h2, by rw [hk.2 i (by omega) (by omega)]; exact h3⟩
theorem wlit2 {Q : PV → PHeap → Prop} {h : PHeap} {a b : Int} {F : PV × PHeap → Res} (hf : ∀ p h', OwnSl h.length h' p [a, b] → Keep h.length h h' → W (F (p, h')) Q) : W ((buildSliceP Tryd.prog 31 2 [(0, .int .i64 a), (1, .int .i64 b)] h).bind F) Q := by
  have hb : buildSliceP Tryd.prog 31 2 [(0, .int .i64 a), (1, .int .i64 b)] h = some (.sl h.length 0 2, h ++ [.own 1 ([a, b].map (.int .i64))]) := by
    simp [buildSliceP, tyElem, tySize, tyZero, repeatCells, fillP, PV.cells, setCells]
  exact wbd hb (hf _ _ (.inr ⟨h.length, Nat.le_refl _, rfl, by simp⟩) (Keep.append _ _ _ (Nat.le_refl _)))

theorem f_quo39 (B : Nat) (h : B < 40) : binP Tryd.prog .quo 3 (.int .i64 (B : Int)) (.int .i64 39) = some (.int .i64 ((B / 39 : Nat) : Int)) := by
  have hb : B / 39 ≤ 1 := by omega
  rw [bin_quo (by decide), show (39 : Int) = ((39 : Nat) : Int) from rfl, ← Int.ofNat_tdiv, wr (by omega)]

variable (g : Nat → PV) (lf n : Nat)

theorem wires_W {h : PHeap} {id m : Nat} (N : Nat) (hN : 3 ≤ N) (c : Int) (hc1 : 1 ≤ c) (hc2 : c ≤ 1000000) (hr : Rd h id m) (hm : m ≤ 600000) (hlf : 20 < lf) :
    W (CL g lf N fn_spec_l20Wires [.ptr id 0, .int .i64 c] h) fun v h' => ∃ (nodes : Int) (q : PV) (ws : List (Int × Int)) (m' : Nat), v = .tup [.int .i64 nodes, q] ∧ Rd h' id m' ∧ m' ≤ m + 100 ∧ KeepX id h.length h h' ∧ OwnW h.length h' q ws ∧ ws.length ≤ 8 ∧ 1 ≤ nodes ∧ nodes ≤ 6 := by
  obtain ⟨n, rfl⟩ : ∃ n, N = n + 1 := ⟨N - 1, by omega⟩
  have hid := hr.lt
  rw [spec_l20Wires.call_eq]
  unfold spec_l20Wires.main
  simp only [env_C, env_lf, env_buildSlice, env_bin]
  obtain ⟨v1, h1, e1, r1, o1, a1, a2, _⟩ := pick_calls g lf n (by omega) 4 hr (by omega) (by omega)
  obtain ⟨V, rfl⟩ := Int.eq_ofNat_of_zero_le a1
  have hV : V < 4 := by omega
  have K1 : KeepX id h.length h h1 := o1.x
  have hl12 : h1.length = h.length := o1.1
  repeat (first | with_reducible refine wbd (by assumption) ?_ | (refine wemptyW fun q h2 w2 k2 => ?_) | with_reducible refine wadd (by omega) ?_ | dsimp only)
  dsimp only at w2 k2
  have r2 := r1.keep k2 r1.lt
  have K2 : KeepX id h.length h h2 := K1.trans ((Keep.x k2).mono (by omega))
  obtain ⟨v3, h3, e3, r3, o3, b1, b2, _⟩ := pick_calls g lf n (by omega) 7 r2 (by omega) (by omega)
  obtain ⟨U, rfl⟩ := Int.eq_ofNat_of_zero_le b1
  have hU : U < 7 := by omega
  have K3 : KeepX id h.length h h3 := K2.trans o3.x
  have w3 : OwnW h.length h3 q [] := (w2.mono (by omega)).keepX (o3.x (n := h2.length)) (by omega) (Nat.le_refl _)
  obtain ⟨M, hM⟩ : ∃ M, M = 2 + V := ⟨_, rfl⟩
  have hM2 : (2 : Int) + (V : Int) = (M : Int) := by omega
  have hM5 : M ≤ 5 := by omega
  have hM0 : 2 ≤ M := by omega
  repeat (first | with_reducible refine wbd (by assumption) ?_ | with_reducible refine wadd (by omega) ?_ | dsimp only)
  refine loopW (fun d s => ∃ (q : PV) (ws : List (Int × Int)) (m' : Nat) (h4 : PHeap), s = spec_l20Wires.st0 (.ptr id 0) (.int .i64 c) (.int .i64 (M : Int)) q (.int .i64 (d : Int)) h4 ∧ Rd h4 id m' ∧ m' + 2 * d ≤ m + 2 + 14 ∧ KeepX id h.length h h4 ∧ OwnW h.length h4 q ws ∧ ws.length + d ≤ 7) ?_ lf (1 + U) _ (by omega)
    ⟨q, [], m + 1 + 1, h3, by rw [hM2, show (1 : Int) + (U : Int) = ((1 + U : Nat) : Int) by omega], r3, by omega, K3, w3, by simp; omega⟩
  rintro n1 d s ⟨q, ws, m', h4, rfl, r4, hm4, K4, w4, hw⟩ next
  rw [spec_l20Wires.body0_eq]
  unfold spec_l20Wires.body0
  simp only [env_C, env_build, env_buildSlice, env_bin, env_append]
  have hl4 := K4.1
  cases d with
  | zero =>
    obtain ⟨bo, h5, e5, r5, o5⟩ := odd_calls g lf n (by omega) c r4 (by omega) hc2 hc1
    have K5 : KeepX id h.length h h5 := K4.trans o5.x
    have w5 : OwnW h.length h5 q ws := w4.keepX (o5.x (n := h4.length)) (by omega) (Nat.le_refl _)
    have hl5 := K5.1
    cases bo with
    | false =>
      repeat (first | with_reducible refine wF ?_ | with_reducible refine wrI ?_ | with_reducible refine wbd (by assumption) ?_ | (with_reducible refine wresW w5 ?_) | with_reducible refine wgtrF (by omega) ?_ | rw [kLoop_exit] | rw [spec_l20Wires.after0_se0_0_1_6_7_8_19] | dsimp only | simp only [env_C, env_Y, env_g, env_lf, env_pick, env_alloc, env_box, env_build, env_buildSlice, env_load, env_store, env_ptr, env_bin, env_un, env_conv, env_make, env_slice, env_fieldAddr, env_field, env_indexAddr, env_index, env_extract, env_len, env_append, env_max, env_min, env_makeMap, env_lookup, env_update, env_clos, env_bstr])
      exact W.ret ⟨_, q, ws, _, rfl, r5, by omega, K5, w5, by omega, by omega, by omega⟩
    | true =>
      obtain ⟨v6, h6, e6, r6, o6, c1, c2, _⟩ := pick_calls g lf n (by omega) 3 r5 (by omega) (by omega)
      have K6 : KeepX id h.length h h6 := K5.trans o6.x
      have w6 : OwnW h.length h6 q ws := w5.keepX (o6.x (n := h5.length)) (by omega) (Nat.le_refl _)
      have hl6 := K6.1
      repeat (first | with_reducible refine wT ?_ | with_reducible refine wF ?_ | with_reducible refine wbd (by assumption) ?_ | with_reducible refine wgtrF (by omega) ?_ | rw [kLoop_exit] | rw [spec_l20Wires.after0_se0_0_1_6_7_8_19] | dsimp only | simp only [env_C, env_Y, env_g, env_lf, env_pick, env_alloc, env_box, env_build, env_buildSlice, env_load, env_store, env_ptr, env_bin, env_un, env_conv, env_make, env_slice, env_fieldAddr, env_field, env_indexAddr, env_index, env_extract, env_len, env_append, env_max, env_min, env_makeMap, env_lookup, env_update, env_clos, env_bstr])
      refine weql (fun e => ?_) (fun e => ?_)
      · repeat (first | with_reducible refine wT ?_ | (with_reducible refine wbw ?_))
        refine wapW w6 hl6 (by omega) fun p' h7 w7 k7 => ?_
        have r7 := r6.keep k7 (by omega)
        repeat (first | with_reducible refine wrI ?_ | (with_reducible refine wresW w7 ?_) | dsimp only)
        exact W.ret ⟨_, p', _, _, rfl, r7, by omega, K6.trans (Keep.x k7), w7, by simp; omega, by omega, by omega⟩
      · repeat (first | with_reducible refine wF ?_)
        refine weql (fun e => ?_) (fun e => ?_)
        · repeat (first | with_reducible refine wT ?_ | (with_reducible refine wbw ?_))
          refine wapW w6 hl6 (by omega) fun p' h7 w7 k7 => ?_
          have r7 := r6.keep k7 (by omega)
          repeat (first | with_reducible refine wrI ?_ | (with_reducible refine wresW w7 ?_) | dsimp only)
          exact W.ret ⟨_, p', _, _, rfl, r7, by omega, K6.trans (Keep.x k7), w7, by simp; omega, by omega, by omega⟩
        · repeat (first | with_reducible refine wF ?_ | (refine wlit2 fun q7 h7 o7 k7 => ?_) | dsimp only)
          have r7 := r6.keep k7 r6.lt
          have K7 : KeepX id h.length h h7 := K6.trans ((Keep.x k7).mono hl6)
          have w7 : OwnW h.length h7 q ws := w6.keep k7
          obtain ⟨v8, h8, e8, r8, o8, d1, d2, _⟩ := pick_calls g lf n (by omega) 2 r7 (by omega) (by omega)
          obtain ⟨Y, rfl⟩ := Int.eq_ofNat_of_zero_le d1
          have hY : Y < 2 := by omega
          have w8 : OwnW h.length h8 q ws := w7.keepX (o8.x (n := h7.length)) (by omega) (Nat.le_refl _)
          have o7' : OwnSl h6.length h8 q7 [1, 6] := o7.keepX (o8.x (n := h7.length)) (by omega) (Nat.le_refl _)
          repeat (first | with_reducible refine wrI ?_ | with_reducible refine wbd (by assumption) ?_ | (refine wat o7'.int (show Y < 2 from hY) fun a hl => ?_) | dsimp only)
          repeat (first | (with_reducible refine wresW w8 ?_))
          have hv : 1 ≤ ([1, 6] : List Int)[Y] ∧ ([1, 6] : List Int)[Y] ≤ 6 := by
            have : Y = 0 ∨ Y = 1 := by omega
            rcases this with rfl | rfl <;> simp
          exact W.ret ⟨_, q, ws, _, rfl, r8, by omega, K7.trans o8.x, w8, by omega, hv.1, hv.2⟩
  | succ d =>
    obtain ⟨v5, h5, e5, r5, o5, c1, c2, _⟩ := pick_calls g lf n (by omega) (M : Int) r4 (by omega) (by omega)
    obtain ⟨A, rfl⟩ := Int.eq_ofNat_of_zero_le c1
    have hA : A < M := by omega
    obtain ⟨v6, h6, e6, r6, o6, d1, d2, _⟩ := pick_calls g lf n (by omega) ((M - 1 : Nat) : Int) r5 (by omega) (by omega)
    obtain ⟨B, rfl⟩ := Int.eq_ofNat_of_zero_le d1
    have hB : B < M := by omega
    have K6 : KeepX id h.length h h6 := (K4.trans o5.x).trans o6.x
    have w6 : OwnW h.length h6 q ws := (w4.keepX (o5.x (n := h4.length)) (by omega) (Nat.le_refl _)).keepX (o6.x (n := h5.length)) (by omega) (Nat.le_refl _)
    have hl6 := K6.1
    repeat (first | with_reducible refine wT ?_ | with_reducible refine wbd (by assumption) ?_ | (with_reducible refine wbw ?_) | with_reducible refine wadd1 (by omega) ?_ | with_reducible refine waddN (by omega) ?_ | with_reducible refine wsub1 (by omega) (by omega) ?_ | with_reducible refine wremN (by omega) ?_ | with_reducible refine wgtrT (by omega) ?_ | dsimp only)
    refine wapW w6 hl6 (by omega) fun p' h7 w7 k7 => ?_
    have r7 := r6.keep k7 (by omega)
    repeat (first | with_reducible refine wsub1 (by omega) (by omega) ?_ | dsimp only)
    refine next _ _ (Nat.lt_succ_self d) ⟨p', _, _, h7, rfl, r7, by omega, K6.trans (Keep.x k7), w7, by simp; omega⟩

end Go.Proofs.YtbmmcldbllhhhaaDoor

/- The model's chapter 3, on: the winning cells and the moves played on. -/
set_option maxRecDepth 20000
namespace Go.Proofs.YtbmmcldbllhhhaaDoor
open Go Go.Ip G

/-! ### two lists at once: one between two marks, that is written to, and one apart from it, that grows -/
def Apart (b0 b1 b2 : Nat) (h : PHeap) (q : PV) (ys : List Int) : Prop := ∃ n m, OwnB n m h q ys ∧ b0 ≤ n ∧ (m ≤ b1 ∨ b2 ≤ n) ∧ m ≤ h.length
theorem Apart.keep {b0 b1 b2 : Nat} {h h' : PHeap} {q : PV} {ys : List Int} (s : Apart b0 b1 b2 h q ys) (k : Keep h.length h h') : Apart b0 b1 b2 h' q ys := by
  obtain ⟨n, m, o, h1, h2, h3⟩ := s
  exact ⟨n, m, o.keep (k.mono h3), h1, h2, Nat.le_trans h3 k.1⟩
theorem Apart.only {b0 b1 b2 : Nat} {h h' : PHeap} {q : PV} {ys : List Int} (s : Apart b0 b1 b2 h q ys) (k : Only b1 b2 h h') : Apart b0 b1 b2 h' q ys := by
  obtain ⟨n, m, o, h1, h2, h3⟩ := s
  exact ⟨n, m, o.only k (h2.imp id id), h1, h2, by rw [k.1]; exact h3⟩
theorem Apart.sl {b0 b1 b2 : Nat} {h : PHeap} {q : PV} {ys : List Int} (s : Apart b0 b1 b2 h q ys) : OwnSl b0 h q ys := by
  obtain ⟨n, m, o, h1, h2, h3⟩ := s
  exact o.sl.mono h1

theorem OwnB.append {n m : Nat} {h : PHeap} {p : PV} {xs : List Int} (s : OwnB n m h p xs) (hn : n ≤ h.length) (x : Int) (hl : xs.length + 1 ≤ 2 ^ 36) :
    ∃ v p' h', buildSliceP Tryd.prog 31 1 [(0, .int .i64 x)] h = some v ∧ appendP Tryd.prog 31 31 p v.1 v.2 = some (p', h') ∧ OwnSl h.length h' p' (xs ++ [x]) ∧ Keep n h h' ∧
      ∀ a b r zs, OwnB a b h r zs → (b ≤ n ∨ m ≤ a) → OwnB a b h' r zs := by
  have hb : buildSliceP Tryd.prog 31 1 [(0, .int .i64 x)] h = some (.sl h.length 0 1, h ++ [.own 1 [.int .i64 x]]) := by
    simp [buildSliceP, tyElem, tySize, tyZero, repeatCells, fillP, PV.cells, setCells]
  have hsrc : srcP (h ++ [.own 1 [.int .i64 x]]) 1 (.sl h.length 0 1) = some (1, [.int .i64 x]) := by
    simp [srcP, cellsAt, PObj.get]
  rcases s with ⟨rfl, rfl⟩ | ⟨id, h1, h2, rfl, h3⟩
  · refine ⟨_, .sl (h.length + 1) 0 1, h ++ [.own 1 [.int .i64 x]] ++ [.own 1 [.int .i64 x]], hb, ?_, .inr ⟨h.length + 1, by omega, rfl, ?_⟩, ?_, ?_⟩
    · simp [appendP, tyElem, tySize, tySmall, hsrc]
    · rw [List.getElem?_append_right (by simp)]; simp
    · rw [List.append_assoc]; exact Keep.append _ _ _ hn
    · rintro a b r zs (⟨rfl, rfl⟩ | ⟨i, i1, i2, rfl, i3⟩) _
      · exact .inl ⟨rfl, rfl⟩
      · refine .inr ⟨i, i1, i2, rfl, ?_⟩
        have hi : i < h.length := (List.getElem?_eq_some_iff.1 i3).1
        rw [List.append_assoc, List.getElem?_append_left hi]; exact i3
  · have hid : id < h.length := (List.getElem?_eq_some_iff.1 h3).1
    have h3' : (h ++ [PObj.own 1 [.int .i64 x]])[id]? = some (.own 1 (xs.map (.int .i64))) := by rw [List.getElem?_append_left hid]; exact h3
    refine ⟨_, .sl (h.length + 1) 0 (xs.length + 1), ((h ++ [PObj.own 1 [.int .i64 x]]).set id .dead ++ [PObj.own 1 (xs.map (.int .i64) ++ [.int .i64 x])]), hb, ?_, .inr ⟨h.length + 1, by omega, by simp, ?_⟩, ?_, ?_⟩
    · simp [appendP, tyElem, tySize, tySmall, hsrc, h3', hl]
    · rw [List.getElem?_append_right (by simp)]; simp
    · exact ((Keep.append n h _ hn).trans (Keep.set n _ id .dead h1)).trans (Keep.append _ _ _ (by simp; omega))
    · rintro a b r zs (⟨rfl, rfl⟩ | ⟨i, i1, i2, rfl, i3⟩) hd
      · exact .inl ⟨rfl, rfl⟩
      · refine .inr ⟨i, i1, i2, rfl, ?_⟩
        have hi : i < h.length := (List.getElem?_eq_some_iff.1 i3).1
        rw [List.getElem?_append_left (by simp; omega), List.getElem?_set_ne (by omega), List.getElem?_append_left hi]; exact i3

section
variable {Q : PV → PHeap → Prop} {h : PHeap} {p r : PV} {xs zs : List Int} {b0 b1 b2 : Nat}
end

/-! ### winning cells -/
variable (g : Nat → PV) (lf n : Nat)

/-! ### played on -/
end Go.Proofs.YtbmmcldbllhhhaaDoor

/- Stolen plans and pairs that answer: what chapter 4's functions tell, and what holds of it. No program text. -/
set_option maxRecDepth 20000
namespace Go.Proofs.YtbmmcldbllhhhaaDoor
open Go Go.Ip G

/-! ### pairs -/
/-! ### pairs that are shared -/
/-! ### openings -/
end Go.Proofs.YtbmmcldbllhhhaaDoor

/- Fillings: how many of them a player wins, which cells matter, and that stones on cells that do not matter change nothing. No program text. -/
set_option maxRecDepth 20000
namespace Go.Proofs.YtbmmcldbllhhhaaDoor
open Go Go.Ip G

/-! ### counting over all fillings of some cells -/
/-! ### what a stone more is worth -/
/-! ### each filling is won by one -/
/-- A position whose free cells are those of a list. -/
structure Cover (R C a b : Nat) (l : List Nat) : Prop where
  pos : Pos R C a b
  nodup : l.Nodup
  free : ∀ j, j ∈ l ↔ j < R * C ∧ (a ||| b).testBit j = false
theorem Cover.put {R C a b c : Nat} {l : List Nat} (h : Cover R C a b (c :: l)) (t : Nat) : Cover R C (putA t c a) (putB t c b) l := by
  have hc := (h.free c).1 (List.mem_cons_self ..)
  have hnd := List.nodup_cons.1 h.nodup
  refine ⟨h.pos.put hc.1 hc.2, hnd.2, fun j => ?_⟩
  rw [put_bit, Bool.or_eq_false_iff, decide_eq_false_iff_not]
  constructor
  · intro hj
    have := (h.free j).1 (List.mem_cons_of_mem _ hj)
    exact ⟨this.1, this.2, fun e => hnd.1 (e ▸ hj)⟩
  · rintro ⟨h1, h2, h3⟩
    exact (List.mem_cons.1 ((h.free j).2 ⟨h1, h2⟩)).resolve_left h3
/-! ### the free cells of a set, as a list -/
def cellsN (S : Nat) : List Nat := (List.range 9).filter S.testBit
/-! ### played to the last cell -/
end Go.Proofs.YtbmmcldbllhhhaaDoor

/- What chapter 5's functions tell of a position (countL, pivotL, mattersL, deadL), and what holds of them. No program text. -/
set_option maxRecDepth 20000
namespace Go.Proofs.YtbmmcldbllhhhaaDoor
open Go Go.Ip G

section
variable {R C : Nat} {xs : List Int} (hb : posB (R : Int) (C : Int) xs = true) (hS : Sides (R : Int) (C : Int) R C xs)
include hS
omit hS
include hb
include hS
/-! ### turned and mirrored -/
/-! ### dead cells -/
end

end Go.Proofs.YtbmmcldbllhhhaaDoor

/- Carriers and threats: what holds of positions whose free cells outside a set are given to the other player. No program text. -/
set_option maxRecDepth 20000
namespace Go.Proofs.YtbmmcldbllhhhaaDoor
open Go Go.Ip G

section
variable {R C : Nat} {xs ys : List Int} (hb : posB (R : Int) (C : Int) xs = true) (hb' : posB (R : Int) (C : Int) ys = true)
include hb
include hb'
end

section
variable {xs : List Int} {P : Nat} (hP : P = 1 ∨ P = 2)
include hP
end
section
variable {R C P : Nat} {xs : List Int} (hb : posB (R : Int) (C : Int) xs = true) (hP : P = 1 ∨ P = 2)
include hb hP
end

end Go.Proofs.YtbmmcldbllhhhaaDoor

/- The program's sets of cells: the cells with a stone, the sides, growing and gaps, walked through with the rules of XW. -/
set_option maxRecDepth 20000
namespace Go.Proofs.YtbmmcldbllhhhaaDoor
open Go Go.Ip G

/-! ### sets, without program text -/
theorem bit_of_ne {w : Nat} (h : w ≠ 0) : ∃ j, w.testBit j = true := by
  apply Classical.byContradiction
  intro hh
  refine h (Nat.eq_of_testBit_eq fun j => ?_)
  rw [Nat.zero_testBit]
  cases e : w.testBit j with
  | false => rfl
  | true => exact (hh ⟨j, e⟩).elim

theorem listN_filter (S : Nat) : listN S = ((List.range 9).filter S.testBit).map fun k : Nat => (k : Int) := by
  have : ∀ m k, listFrom S m k = ((List.range' k m).filter S.testBit).map fun k : Nat => (k : Int) := by
    intro m
    induction m with
    | zero => intro k; rfl
    | succ m ih =>
      intro k
      rw [listFrom, List.range'_succ, List.filter_cons, ih]
      by_cases e : S >>> k % 2 = 1
      · rw [if_pos e, if_pos ((bit_iff S k).1 e), List.map_cons]
      · rw [if_neg e, if_neg (fun h => e ((bit_iff S k).2 h))]
  rw [List.range_eq_range']; exact this 9 0

variable (g : Nat → PV) (lf n : Nat)

/-! ### the program -/
theorem playerOk_W (N : Nat) (hN : 1 ≤ N) (h : PHeap) (p : Int) : CL g lf N fn_impl_playerOk [.int .i64 p] h = some (.bool (playerB p), h) := by
  obtain ⟨n, rfl⟩ : ∃ n, N = n + 1 := ⟨N - 1, by omega⟩
  have : W (CL g lf (n + 1) fn_impl_playerOk [.int .i64 p] h) fun v h' => v = .bool (playerB p) ∧ h' = h := by
    rw [impl_playerOk.call_eq]
    unfold impl_playerOk.main
    simp only [env_pick, env_bin]
    refine weql (fun e => ?_) (fun e => ?_)
    · repeat (first | with_reducible refine wg0 rfl ?_ | with_reducible refine wpT ?_ | with_reducible refine wsm ?_ | with_reducible refine wrB ?_ | dsimp only)
      exact W.ret ⟨by subst e; rfl, rfl⟩
    · repeat (first | with_reducible refine wg1 rfl ?_ | with_reducible refine wpv ?_ | with_reducible refine wsm ?_ | dsimp only)
      refine weql (fun e2 => ?_) (fun e2 => ?_)
      · repeat (first | with_reducible refine wpF ?_ | with_reducible refine wrB ?_)
        exact W.ret ⟨by subst e2; rfl, rfl⟩
      · repeat (first | with_reducible refine wpF ?_ | with_reducible refine wrB ?_)
        exact W.ret ⟨by rw [show playerB p = false by unfold playerB; exact decide_eq_false (by omega)], rfl⟩
  obtain ⟨_, _, e, rfl, rfl⟩ := this
  exact e

theorem setOf_W {xs : List Int} {p : PV} {h : PHeap} (what : Int) (hp : IntSl .i64 h p xs) (hl : xs.length ≤ 20) (N : Nat) (hN : 1 ≤ N) (hlf : 1000 < lf) :
    CL g lf N fn_impl_setOf [p, .int .i64 what] h = some (.int .i64 (setL xs what : Int), h) := by
  obtain ⟨n, rfl⟩ : ∃ n, N = n + 1 := ⟨N - 1, by omega⟩
  have : W (CL g lf (n + 1) fn_impl_setOf [p, .int .i64 what] h) fun v h' => v = .int .i64 (setL xs what : Int) ∧ h' = h := by
    rw [impl_setOf.call_eq]
    unfold impl_setOf.main
    simp only [env_lf, env_len]
    repeat (first | with_reducible refine wlen (by assumption) ?_)
    refine loopW (fun m s => ∃ i w : Nat, s = impl_setOf.st0 (.int .i64 what) (.int .i64 (w : Int)) p (.int .i64 (xs.length : Int)) (.int .i64 (i : Int)) h ∧ i + m = xs.length ∧ w < 2 ^ 30 ∧ setFrom what i (xs.drop i) w = setL xs what) ?_ lf xs.length _ (by omega) ⟨0, 0, rfl, by omega, by decide, rfl⟩
    rintro n1 m s ⟨i, w, rfl, him, hw, hset⟩ next
    rw [impl_setOf.body0_eq]
    unfold impl_setOf.body0
    simp only [env_load, env_bin, env_indexAddr]
    by_cases hi : i < xs.length
    · have hdx : xs.drop i = xs[i] :: xs.drop (i + 1) := List.drop_eq_getElem_cons hi
      have h30 : 1 <<< i < 2 ^ 30 := by rw [Nat.one_shiftLeft]; exact Nat.pow_lt_pow_right (by decide) (by omega)
      rw [hdx, setFrom] at hset
      repeat (first | with_reducible refine wT ?_ | with_reducible refine wbd (by assumption) ?_ | (with_reducible refine wat hp hi fun a hl => ?_) | with_reducible refine wlssT (by omega) ?_)
      refine weql (fun e => ?_) (fun e => ?_)
      · repeat (first | with_reducible refine wT ?_ | with_reducible refine wadd1 (by omega) ?_ | with_reducible refine wshl (by omega) ?_ | with_reducible refine wor (by omega) (by omega) ?_)
        rw [if_pos e] at hset
        exact next _ _ (show m - 1 < m by omega) ⟨i + 1, _, rfl, by omega, Nat.or_lt_two_pow hw h30, hset⟩
      · repeat (first | with_reducible refine wF ?_ | with_reducible refine wadd1 (by omega) ?_)
        rw [if_neg e] at hset
        exact next _ _ (show m - 1 < m by omega) ⟨i + 1, _, rfl, by omega, hw, hset⟩
    · rw [List.drop_eq_nil_of_le (by omega), setFrom] at hset
      repeat (first | with_reducible refine wF ?_ | with_reducible refine wrI ?_ | with_reducible refine wlssF (by omega) ?_ | rw [kLoop_exit] | rw [impl_setOf.after0_se0_1_5_8_9_10_11])
      exact W.ret ⟨by rw [hset], rfl⟩
  obtain ⟨_, _, e, rfl, rfl⟩ := this
  exact e

end Go.Proofs.YtbmmcldbllhhhaaDoor

/- The model's chapters 4 and 5: what Openings, PairCell, PairFilled, MattersAt, DeadCells, FillCount and PivotCount of it compute. -/
set_option maxRecDepth 20000
namespace Go.Proofs.YtbmmcldbllhhhaaDoor
open Go Go.Ip G

section
variable {Q : PV → PHeap → Prop} {x y : Nat} {f : PV → Res}
end

variable (g : Nat → PV) (lf n : Nat)

/-! ### pairs -/
/-! ### fillings -/
theorem listN_cells (S : Nat) : listN S = (cellsN S).map fun k : Nat => (k : Int) := listN_filter S
/-! ### what one cell decides -/
end Go.Proofs.YtbmmcldbllhhhaaDoor

/- Least sets of cells, cells that must be taken, and bridges. No program text. -/
set_option maxRecDepth 20000
namespace Go.Proofs.YtbmmcldbllhhhaaDoor
open Go Go.Ip G

/-! ### every set of free cells is told by a number -/
/-! ### the least one -/
def sizeN (S : Nat) : Nat := (cellsN S).length
section
variable {R C P : Nat} {xs : List Int} (hb : posB (R : Int) (C : Int) xs = true) (hP : P = 1 ∨ P = 2)
include hb
include hP
end

/-! ### cells that must be taken -/
end Go.Proofs.YtbmmcldbllhhhaaDoor

/- Bridges. No program text. -/
set_option maxRecDepth 20000
namespace Go.Proofs.YtbmmcldbllhhhaaDoor
open Go Go.Ip G

/-! ### the count that the law makes -/
/-! ### the list that grows -/
end Go.Proofs.YtbmmcldbllhhhaaDoor

/- The model's chapter 6: what CarrierOk, ThreatOk, LeastCarrier, LeastThreat, BridgesOf and MustCells of it compute. -/
set_option maxRecDepth 20000
namespace Go.Proofs.YtbmmcldbllhhhaaDoor
open Go Go.Ip G

/-! ### lists, while they are written -/
variable (g : Nat → PV) (lf n : Nat)

/-! ### what is left to a player -/
/-! ### sets that may carry -/
theorem l6Size_calls {S : Nat} (hS : S < 2 ^ 9) (N : Nat) (hN : 2 ≤ N) (hlf : 1000 < lf) (h : PHeap) :
    ∃ h', CL g lf N fn_spec_l6Size [.int .i64 (S : Int)] h = some (.int .i64 ((sizeN S : Nat) : Int), h') ∧ Keep h.length h h' := by
  obtain ⟨n, rfl⟩ : ∃ n, N = n + 1 := ⟨N - 1, by omega⟩
  obtain ⟨q, h1, e1, o1, k1⟩ := l2List_calls g lf hS n (by omega) (by omega) (h := h)
  rw [listN_cells] at o1
  have hlen := o1.int.len'
  rw [List.length_map] at hlen
  have : W (CL g lf (n + 1) fn_spec_l6Size [.int .i64 (S : Int)] h) fun v h' => v = .int .i64 ((sizeN S : Nat) : Int) ∧ Keep h.length h h' := by
    rw [spec_l6Size.call_eq]
    unfold spec_l6Size.main
    simp only [env_C, env_len]
    repeat (first | with_reducible refine wrI ?_ | with_reducible refine wbd (by assumption) ?_ | dsimp only)
    exact W.ret ⟨rfl, k1⟩
  obtain ⟨_, h', e, rfl, k⟩ := this
  exact ⟨h', e, k⟩

/-! ### least sets -/
/-! ### bridges -/
/-! ### cells that must be taken -/
end Go.Proofs.YtbmmcldbllhhhaaDoor

/- Trees: as many wires as nodes but one; what a tree loses with a wire, a wire of another one gives back; so two trees win. No program text. -/
set_option maxRecDepth 20000
namespace Go.Proofs.YtbmmcldbllhhhaaDoor
open Go Go.Ip G

/-- The wires of a set that lie within a set of nodes. -/
def inW (ws : List (Nat × Nat)) (S X k : Nat) : Bool := S.testBit k && match ws[k]? with | some w => X.testBit w.1 && X.testBit w.2 | none => false
def innerW (ws : List (Nat × Nat)) (S X : Nat) : Nat := (List.range 9).countP (inW ws S X)
theorem inner_le {ws : List (Nat × Nat)} {S X : Nat} : innerW ws S X ≤ pop S :=
  List.countP_mono_left fun k _ h => by unfold inW at h; rw [Bool.and_eq_true] at h; exact h.1
theorem pop_all : ((List.range 512).all fun x => (List.range 9).all fun v => x.testBit v || pop (x ||| (1 <<< v)) == pop x + 1) = true := by kernel_rfl
theorem pop_add {x v : Nat} (hx : x < 2 ^ 9) (hv : v < 9) (h : x.testBit v = false) : pop (x ||| (1 <<< v)) = pop x + 1 := by
  have := List.all_eq_true.1 (List.all_eq_true.1 pop_all x (List.mem_range.2 hx)) v (List.mem_range.2 hv)
  rw [h, Bool.false_or] at this
  exact beq_iff_eq.1 this
theorem with_without {x c : Nat} (h : x.testBit c = true) : without x c ||| (1 <<< c) = x := by
  apply Nat.eq_of_testBit_eq
  intro j
  rw [with_bit, without_bit]
  by_cases e : j = c
  · subst e; simp [h]
  · simp [e]
theorem pop_less {x c : Nat} (hx : x < 2 ^ 9) (h : x.testBit c = true) : pop (without x c) + 1 = pop x := by
  have hc : c < 9 := bit_small hx h
  have := pop_add (x := without x c) (v := c) (without_lt hx) hc (by rw [without_bit]; simp)
  rw [with_without h] at this; omega

/-- A set of nodes that no wire of S leaves. -/
def ClosedW (ws : List (Nat × Nat)) (S X : Nat) : Prop := ∀ k w, ws[k]? = some w → S.testBit k = true → X.testBit w.1 = X.testBit w.2
theorem closed_conn {ws : List (Nat × Nat)} {S X u v : Nat} (hc : ClosedW ws S X) (h : Conn ws S u v) : X.testBit u = X.testBit v := by
  induction h with
  | refl => rfl
  | fwd _ hw hs e ih => rw [ih, ← e]; exact hc _ _ hw hs
  | bwd _ hw hs e ih => rw [ih, ← e]; exact (hc _ _ hw hs).symm

/-- Nodes are come to one by one, each by a wire of its own. -/
theorem reach_size {nodes : Nat} {ws : List (Nat × Nat)} (hn : NetN nodes ws) {S : Nat} : ∀ (m X : Nat), 32 - X ≤ m → X < 2 ^ 5 → X.testBit 0 = true → (∀ v, X.testBit v = true → Conn ws S 0 v) → pop X ≤ 1 + innerW ws S X →
    ∃ Y, Y < 2 ^ 5 ∧ ClosedW ws S Y ∧ (∀ v, Y.testBit v = true ↔ Conn ws S 0 v) ∧ pop Y ≤ 1 + innerW ws S Y := by
  intro m
  induction m with
  | zero => intro X hm hX; omega
  | succ m ih =>
    intro X hm hX h0 hc hp
    by_cases hcl : ClosedW ws S X
    · exact ⟨X, hX, hcl, fun v => ⟨hc v, fun h => by rw [← closed_conn hcl h]; exact h0⟩, hp⟩
    · have : ∃ k w, ws[k]? = some w ∧ S.testBit k = true ∧ X.testBit w.1 ≠ X.testBit w.2 := by
        apply Classical.byContradiction
        intro hno
        exact hcl fun k w hk hs => Classical.byContradiction fun hne => hno ⟨k, w, hk, hs, hne⟩
      obtain ⟨k, w, hk, hs, hne⟩ := this
      have hkl : k < ws.length := (List.getElem?_eq_some_iff.1 hk).1
      obtain ⟨n1, n2, n3, n4⟩ := id hn
      obtain ⟨q1, q2, q3⟩ := n4 w (List.mem_of_getElem? hk)
      -- the new node
      have hnew : ∃ v, v < 5 ∧ X.testBit v = false ∧ Conn ws S 0 v ∧ (v = w.1 ∨ v = w.2) ∧ (w.1 = v ∨ X.testBit w.1 = true) ∧ (w.2 = v ∨ X.testBit w.2 = true) := by
        cases e1 : X.testBit w.1 with
        | true =>
          have e2 : X.testBit w.2 = false := by
            cases e2 : X.testBit w.2 with
            | false => rfl
            | true => rw [e1, e2] at hne; exact absurd rfl hne
          exact ⟨w.2, by omega, e2, .fwd (hc _ e1) hk hs rfl, .inr rfl, .inr rfl, .inl rfl⟩
        | false =>
          have e2 : X.testBit w.2 = true := by
            cases e2 : X.testBit w.2 with
            | true => rfl
            | false => rw [e1, e2] at hne; exact absurd rfl hne
          exact ⟨w.1, by omega, e1, .bwd (hc _ e2) hk hs rfl, .inl rfl, .inl rfl, .inr e2⟩
      obtain ⟨v, v1, v2, v3, v4, v5, v6⟩ := hnew
      have hX' : X ||| (1 <<< v) < 2 ^ 5 := Nat.or_lt_two_pow hX (by rw [Nat.one_shiftLeft]; exact Nat.pow_lt_pow_right (by decide) v1)
      have hgt : X < X ||| (1 <<< v) := Nat.lt_of_le_of_ne Nat.left_le_or fun e => by
        have : X.testBit v = true := by rw [e, with_bit]; simp
        rw [v2] at this; cases this
      refine ih (X ||| (1 <<< v)) (by omega) hX' (by rw [with_bit, h0]; rfl) (fun j hj => ?_) ?_
      · rw [with_bit, Bool.or_eq_true, decide_eq_true_eq] at hj
        rcases hj with hj | rfl
        · exact hc j hj
        · exact v3
      · rw [pop_add (Nat.lt_of_lt_of_le hX (by decide)) (by omega) v2]
        have : innerW ws S X + 1 ≤ innerW ws S (X ||| (1 <<< v)) := by
          refine countP_lt (c := k) (fun j _ hj => ?_) (List.mem_range.2 (by omega)) ?_ ?_
          · unfold inW at hj ⊢
            rw [Bool.and_eq_true] at hj ⊢
            refine ⟨hj.1, ?_⟩
            cases hw : ws[j]? with
            | none => rw [hw] at hj; exact hj.2
            | some x =>
              rw [hw] at hj
              have := hj.2
              simp only [Bool.and_eq_true] at this ⊢
              rw [with_bit, with_bit, this.1, this.2]; simp
          · unfold inW; rw [hs, hk]
            simp only [Bool.true_and, Bool.and_eq_true]
            rw [with_bit, with_bit]
            refine ⟨?_, ?_⟩
            · rcases v5 with e | e
              · simp [e]
              · simp [e]
            · rcases v6 with e | e
              · simp [e]
              · simp [e]
          · unfold inW; rw [hs, hk]
            simp only [Bool.true_and]
            rcases v4 with rfl | rfl
            · rw [v2]; rfl
            · rw [v2]; simp
        omega
theorem conn_size {nodes : Nat} {ws : List (Nat × Nat)} (hn : NetN nodes ws) {S : Nat} : ∃ Y, Y < 2 ^ 5 ∧ ClosedW ws S Y ∧ (∀ v, Y.testBit v = true ↔ Conn ws S 0 v) ∧ pop Y ≤ 1 + pop S := by
  obtain ⟨Y, h1, h2, h3, h4⟩ := reach_size hn (S := S) 32 1 (by omega) (by decide) (by decide) (fun v hv => by
    have : v = 0 := by
      rw [show (1 : Nat) = 1 <<< 0 from rfl, one_bit] at hv; simpa using hv
    subst this; exact .refl) (by show 1 ≤ _; omega)
  exact ⟨Y, h1, h2, h3, Nat.le_trans h4 (by have := inner_le (ws := ws) (S := S) (X := Y); omega)⟩

/-- A tree on a set of nodes, the node 0 among them. -/
def TreeOn (ws : List (Nat × Nat)) (T X : Nat) : Prop := T < 2 ^ ws.length ∧ X < 2 ^ 5 ∧ pop T + 1 = pop X ∧ ∀ v, X.testBit v = true ↔ Conn ws T 0 v

/-- What a tree loses with a wire, some wire of another one gives back. -/
theorem tree_exchange {nodes : Nat} {ws : List (Nat × Nat)} (hn : NetN nodes ws) {T1 T2 X e : Nat} (h1 : TreeOn ws T1 X) (h2 : TreeOn ws T2 X) (he : T1.testBit e = true) :
    ∃ f, T2.testBit f = true ∧ (without T1 e).testBit f = false ∧ TreeOn ws (without T1 e ||| (1 <<< f)) X := by
  obtain ⟨a1, a2, a3, a4⟩ := h1
  obtain ⟨b1, b2, b3, b4⟩ := h2
  obtain ⟨n1, n2, n3, n4⟩ := id hn
  have hT9 : T1 < 2 ^ 9 := Nat.lt_of_lt_of_le a1 (Nat.pow_le_pow_right (by decide) (by omega))
  obtain ⟨Y, y1, y2, y3, y4⟩ := conn_size hn (S := without T1 e)
  have hpl := pop_less hT9 he
  have hsub : ∀ j, (without T1 e).testBit j = true → T1.testBit j = true := fun j hj => by rw [without_bit, Bool.and_eq_true] at hj; exact hj.1
  have hYX : ∀ v, Y.testBit v = true → X.testBit v = true := fun v hv => (a4 v).2 (((y3 v).1 hv).mono hsub)
  -- some node of X is lost
  have hlost : ∃ x, X.testBit x = true ∧ Y.testBit x = false := by
    apply Classical.byContradiction
    intro hno
    have : X = Y := by
      apply Nat.eq_of_testBit_eq
      intro j
      cases ex : X.testBit j with
      | true =>
        cases ey : Y.testBit j with
        | true => rfl
        | false => exact (hno ⟨j, ex, ey⟩).elim
      | false =>
        cases ey : Y.testBit j with
        | false => rfl
        | true => rw [hYX j ey] at ex; cases ex
    rw [← this] at y4; omega
  obtain ⟨x, hx, hxY⟩ := hlost
  have h0Y : Y.testBit 0 = true := (y3 0).2 .refl
  -- a wire of the other tree leaves Y
  have hnc : ¬ ClosedW ws T2 Y := fun hc => by
    have := closed_conn hc ((b4 x).1 hx)
    rw [h0Y, hxY] at this; cases this
  have : ∃ f w, ws[f]? = some w ∧ T2.testBit f = true ∧ Y.testBit w.1 ≠ Y.testBit w.2 := by
    apply Classical.byContradiction
    intro hno
    exact hnc fun k w hk hs => Classical.byContradiction fun hne => hno ⟨k, w, hk, hs, hne⟩
  obtain ⟨f, w, hf, hfT, hne⟩ := this
  have hfl : f < ws.length := (List.getElem?_eq_some_iff.1 hf).1
  have hfn : (without T1 e).testBit f = false := by
    cases e1 : (without T1 e).testBit f with
    | false => rfl
    | true => exact absurd (y2 f w hf e1) hne
  obtain ⟨T, hT⟩ : ∃ T, T = without T1 e ||| (1 <<< f) := ⟨_, rfl⟩
  have hTs : ∀ j, (without T1 e).testBit j = true → T.testBit j = true := fun j hj => by rw [hT, with_bit, hj]; rfl
  have hTf : T.testBit f = true := by rw [hT, with_bit]; simp
  -- both ends of f are in X
  have hends : X.testBit w.1 = true ∧ X.testBit w.2 = true := by
    have hw12 : X.testBit w.1 = X.testBit w.2 := by
      have hcl : ClosedW ws T2 X := fun k u hk hs => by
        rw [Bool.eq_iff_iff, b4, b4]
        exact ⟨fun h => .fwd h hk hs rfl, fun h => .bwd h hk hs rfl⟩
      exact hcl f w hf hfT
    cases e1 : Y.testBit w.1 with
    | true => have := hYX _ e1; exact ⟨this, hw12 ▸ this⟩
    | false =>
      cases e2 : Y.testBit w.2 with
      | true => have := hYX _ e2; exact ⟨hw12 ▸ this, this⟩
      | false => rw [e1, e2] at hne; exact absurd rfl hne
  -- what is lost hangs together
  obtain ⟨u, hu⟩ : ∃ u, ws[e]? = some u := ⟨_, List.getElem?_eq_getElem (bit_small a1 he)⟩
  have hthree : ∀ v, Conn ws T1 0 v → Conn ws (without T1 e) 0 v ∨ Conn ws (without T1 e) u.1 v ∨ Conn ws (without T1 e) u.2 v := by
    intro v hv
    induction hv with
    | refl => exact .inl .refl
    | @fwd v' k w' _ hw hs ev ih =>
      by_cases hke : k = e
      · subst hke; rw [hu] at hw; cases hw; exact .inr (.inr .refl)
      · have hs' : (without T1 e).testBit k = true := by rw [without_bit, hs]; simp [hke]
        exact ih.imp (fun h => .fwd h hw hs' ev) (fun h => h.imp (fun h => .fwd h hw hs' ev) (fun h => .fwd h hw hs' ev))
    | @bwd v' k w' _ hw hs ev ih =>
      by_cases hke : k = e
      · subst hke; rw [hu] at hw; cases hw; exact .inr (.inl .refl)
      · have hs' : (without T1 e).testBit k = true := by rw [without_bit, hs]; simp [hke]
        exact ih.imp (fun h => .bwd h hw hs' ev) (fun h => h.imp (fun h => .bwd h hw hs' ev) (fun h => .bwd h hw hs' ev))
  have hone : ∃ q, ∀ v, X.testBit v = true → Y.testBit v = false → Conn ws (without T1 e) q v := by
    by_cases hu1 : Y.testBit u.1 = true
    · refine ⟨u.2, fun v hv hvY => ?_⟩
      rcases hthree v ((a4 v).1 hv) with h | h | h
      · rw [(y3 v).2 h] at hvY; cases hvY
      · rw [(y3 v).2 (((y3 _).1 hu1).trans h)] at hvY; cases hvY
      · exact h
    · by_cases hu2 : Y.testBit u.2 = true
      · refine ⟨u.1, fun v hv hvY => ?_⟩
        rcases hthree v ((a4 v).1 hv) with h | h | h
        · rw [(y3 v).2 h] at hvY; cases hvY
        · exact h
        · rw [(y3 v).2 (((y3 _).1 hu2).trans h)] at hvY; cases hvY
      · -- the wire was never come to
        exfalso
        have hcl : ClosedW ws T1 Y := fun k z hk hs => by
          by_cases hke : k = e
          · subst hke; rw [hu] at hk; cases hk
            have e1 : Y.testBit u.1 = false := by simpa using hu1
            have e2 : Y.testBit u.2 = false := by simpa using hu2
            rw [e1, e2]
          · exact y2 k z hk (by rw [without_bit, hs]; simp [hke])
        have := closed_conn hcl ((a4 x).1 hx)
        rw [h0Y, hxY] at this; cases this
  obtain ⟨q, hq⟩ := hone
  have hconn : ∀ v, X.testBit v = true → Conn ws T 0 v := fun v hv => by
    cases hvY : Y.testBit v with
    | true => exact ((y3 v).1 hvY).mono hTs
    | false =>
      have hqv := (hq v hv hvY).mono hTs
      cases e1 : Y.testBit w.1 with
      | true =>
        have e2 : Y.testBit w.2 = false := by
          cases e2 : Y.testBit w.2 with
          | false => rfl
          | true => rw [e1, e2] at hne; exact absurd rfl hne
        have h0w : Conn ws T 0 w.2 := .fwd (((y3 _).1 e1).mono hTs) hf hTf rfl
        exact (h0w.trans (((hq _ hends.2 e2).mono hTs).symm)).trans hqv
      | false =>
        have e2 : Y.testBit w.2 = true := by
          cases e2 : Y.testBit w.2 with
          | true => rfl
          | false => rw [e1, e2] at hne; exact absurd rfl hne
        have h0w : Conn ws T 0 w.1 := .bwd (((y3 _).1 e2).mono hTs) hf hTf rfl
        exact (h0w.trans (((hq _ hends.1 e1).mono hTs).symm)).trans hqv
  have hclX : ClosedW ws T X := fun k z hk hs => by
    rw [hT, with_bit, Bool.or_eq_true, decide_eq_true_eq] at hs
    rcases hs with hs | rfl
    · rw [Bool.eq_iff_iff, a4, a4]
      exact ⟨fun h => .fwd h hk (hsub _ hs) rfl, fun h => .bwd h hk (hsub _ hs) rfl⟩
    · rw [hf] at hk; cases hk; rw [hends.1, hends.2]
  refine ⟨f, hfT, hfn, ?_⟩
  rw [← hT]
  refine ⟨?_, a2, ?_, fun v => ⟨hconn v, fun h => by rw [← closed_conn hclX h]; exact (a4 0).2 .refl⟩⟩
  · rw [hT]; exact Nat.or_lt_two_pow (without_lt a1) (by rw [Nat.one_shiftLeft]; exact Nat.pow_lt_pow_right (by decide) hfl)
  · rw [hT, pop_add (without_lt hT9) (by omega) hfn]; omega

end Go.Proofs.YtbmmcldbllhhhaaDoor

/- Two trees without a common wire: whatever is cut is answered, so the first one wins, even moving second. No program text. -/
set_option maxRecDepth 20000
namespace Go.Proofs.YtbmmcldbllhhhaaDoor
open Go Go.Ip G

/-- Two trees on the same nodes, none of their wires cut, only taken wires in common. -/
def TwoTrees (ws : List (Nat × Nat)) (a b X T1 T2 : Nat) : Prop := TreeOn ws T1 X ∧ TreeOn ws T2 X ∧ X.testBit 1 = true ∧ (∀ j, T1.testBit j = true → b.testBit j = false) ∧ (∀ j, T2.testBit j = true → b.testBit j = false) ∧ ∀ j, T1.testBit j = true → T2.testBit j = true → a.testBit j = true

theorem two_trees_win {nodes : Nat} {ws : List (Nat × Nat)} (hn : NetN nodes ws) : ∀ (m a b X T1 T2 : Nat), frN ws.length a b ≤ m → gPos ws.length a b → TwoTrees ws a b X T1 T2 → gWin ws.length (linkW ws) (cutW ws) a b 2 = 1 := by
  intro m
  induction m using Nat.strongRecOn with
  | _ m ih =>
  intro a b X T1 T2 hm hp hTT
  have hG := wire_game hn
  -- a tree that is not cut keeps the second one from having won
  have notcut : ∀ {b' T : Nat}, b' < 2 ^ ws.length → TreeOn ws T X → (∀ j, T.testBit j = true → b'.testBit j = false) → cutW ws b' = false := fun {b' T} hb' hT hTb => by
    unfold cutW
    have : linkW ws (2 ^ ws.length - 1 - b') = true := by
      rw [link_iff hn]
      refine ((hT.2.2.2 1).1 hTT.2.2.1).mono fun j hj => ?_
      rw [compl_bit hb', hTb j hj]; simp [bit_small hT.1 hj]
    rw [this]; rfl
  cases k1 : linkW ws a with
  | true => exact gw_first k1
  | false =>
  have k2 : cutW ws b = false := notcut hp.2.1 hTT.1 hTT.2.2.2.1
  rw [gw_open k1 k2, if_neg]
  intro hmv
  obtain ⟨k, hk, hf, hw⟩ := gMove_iff.1 hmv
  have hpk := hp.put (t := 2) hk hf
  have hfr := fr_put (t := 2) hk hf
  have hfab := hf
  rw [Nat.testBit_or, Bool.or_eq_false_iff] at hfab
  have hw : gWin ws.length (linkW ws) (cutW ws) a (b ||| (1 <<< k)) 1 = 2 := hw
  have hpk : gPos ws.length a (b ||| (1 <<< k)) := hpk
  have hfr : frN ws.length a (b ||| (1 <<< k)) + 1 ≤ frN ws.length a b := hfr
  -- the answer: trees that the cut wire is not in, but for what is taken now
  have answer : ∀ U1 U2 : Nat, TreeOn ws U1 X → TreeOn ws U2 X → (∀ j, U1.testBit j = true → b.testBit j = false ∧ j ≠ k) → (∀ j, U2.testBit j = true → b.testBit j = false ∧ j ≠ k) →
      ∀ d, d < ws.length → (a ||| (b ||| (1 <<< k))).testBit d = false → (∀ j, U1.testBit j = true → U2.testBit j = true → a.testBit j = true ∨ j = d) → False := by
    intro U1 U2 h1 h2 c1 c2 d hd hdf hcom
    have hpd := hpk.put (t := 1) hd hdf
    have hfd := fr_put (t := 1) hd hdf
    have hin : ∀ {U j : Nat}, (U.testBit j = true → b.testBit j = false ∧ j ≠ k) → U.testBit j = true → (b ||| (1 <<< k)).testBit j = false := fun hc hj => by
      rw [with_bit, (hc hj).1]; simp [(hc hj).2]
    have hwin := ih (frN ws.length (putA 1 d a) (putB 1 d (b ||| (1 <<< k)))) (by omega) _ _ X U1 U2 (Nat.le_refl _) hpd ⟨h1, h2, hTT.2.2.1, fun j hj => hin (c1 j) hj, fun j hj => hin (c2 j) hj, fun j h1' h2' => by
      show (a ||| (1 <<< d)).testBit j = true
      rw [with_bit]
      rcases hcom j h1' h2' with h | h
      · rw [h]; rfl
      · simp [h]⟩
    cases k3 : cutW ws (b ||| (1 <<< k)) with
    | true => rw [notcut hpk.2.1 h1 (fun j hj => hin (c1 j) hj)] at k3; cases k3
    | false =>
      rw [gw_open k1 k3, if_pos (gMove_iff.2 ⟨d, hd, hdf, hwin⟩)] at hw
      cases hw
  -- there is a wire left
  have hfree : ∃ d, d < ws.length ∧ (a ||| (b ||| (1 <<< k))).testBit d = false := by
    have k3 : cutW ws (b ||| (1 <<< k)) = false := by
      cases e1 : T1.testBit k with
      | false =>
        refine notcut hpk.2.1 hTT.1 fun j hj => ?_
        rw [with_bit, hTT.2.2.2.1 j hj]
        by_cases e : j = k
        · subst e; rw [e1] at hj; cases hj
        · simp [e]
      | true =>
        refine notcut hpk.2.1 hTT.2.1 fun j hj => ?_
        rw [with_bit, hTT.2.2.2.2.1 j hj]
        by_cases e : j = k
        · subst e; rw [hTT.2.2.2.2.2 j e1 hj] at hfab; exact absurd hfab.1 (by decide)
        · simp [e]
    exact hpk.free hG k1 k3
  obtain ⟨d, hd, hdf⟩ := hfree
  obtain ⟨h1, h2, hX1, c1, c2, hcom⟩ := hTT
  have fix : ∀ {A B : Nat}, TreeOn ws A X → TreeOn ws B X → (∀ j, A.testBit j = true → b.testBit j = false) → (∀ j, B.testBit j = true → b.testBit j = false) → (∀ j, A.testBit j = true → B.testBit j = true → a.testBit j = true) → A.testBit k = true → False := fun {A B} hA hB cA cB hco hAk => by
    have hBk : B.testBit k = false := by
      cases e : B.testBit k with
      | false => rfl
      | true => rw [hco k hAk e] at hfab; exact absurd hfab.1 (by decide)
    obtain ⟨f, f1, f2, f3⟩ := tree_exchange hn hA hB hAk
    have hfk : f ≠ k := fun e => by subst e; rw [hBk] at f1; cases f1
    have g1 : ∀ j, (without A k ||| (1 <<< f)).testBit j = true → b.testBit j = false ∧ j ≠ k := fun j hj => by
      rw [with_bit, without_bit, Bool.or_eq_true, Bool.and_eq_true, decide_eq_true_eq, decide_eq_true_eq] at hj
      rcases hj with ⟨hj, hne⟩ | rfl
      · exact ⟨cA j hj, hne⟩
      · exact ⟨cB j f1, hfk⟩
    have g2 : ∀ j, B.testBit j = true → b.testBit j = false ∧ j ≠ k := fun j hj => ⟨cB j hj, fun e => by subst e; rw [hBk] at hj; cases hj⟩
    have g3 : ∀ j, (without A k ||| (1 <<< f)).testBit j = true → B.testBit j = true → a.testBit j = true ∨ j = f := fun j hj hjB => by
      rw [with_bit, without_bit, Bool.or_eq_true, Bool.and_eq_true, decide_eq_true_eq, decide_eq_true_eq] at hj
      rcases hj with ⟨hj, _⟩ | rfl
      · exact .inl (hco j hj hjB)
      · exact .inr rfl
    cases ea : a.testBit f with
    | true =>
      refine answer _ B f3 hB g1 g2 d hd hdf fun j x y => ?_
      rcases g3 j x y with h | rfl
      · exact .inl h
      · exact .inl ea
    | false =>
      refine answer _ B f3 hB g1 g2 f (bit_small hB.1 f1) ?_ g3
      rw [Nat.testBit_or, with_bit, ea, cB f f1]; simp [hfk]
  cases e1 : T1.testBit k with
  | true => exact fix h1 h2 c1 c2 hcom e1
  | false =>
    cases e2 : T2.testBit k with
    | true => exact fix h2 h1 c2 c1 (fun j x y => hcom j y x) e2
    | false =>
      exact answer T1 T2 h1 h2 (fun j hj => ⟨c1 j hj, fun e => by subst e; rw [e1] at hj; cases hj⟩) (fun j hj => ⟨c2 j hj, fun e => by subst e; rw [e2] at hj; cases hj⟩) d hd hdf fun j x y => .inl (hcom j x y)

end Go.Proofs.YtbmmcldbllhhhaaDoor

/- A net whose nodes are put together so that no set of what comes out has many wires within: who cuts first wins it. No program text. -/
set_option maxRecDepth 20000
namespace Go.Proofs.YtbmmcldbllhhhaaDoor
open Go Go.Ip G

theorem countP_four {α : Type} {p q s t : α → Bool} : ∀ (l : List α), (∀ x, x ∈ l → (p x).toNat + (q x).toNat ≤ (s x).toNat + (t x).toNat) → l.countP p + l.countP q ≤ l.countP s + l.countP t
  | [], _ => Nat.le_refl _
  | x :: l, h => by
    have h1 := countP_four l fun y hy => h y (List.mem_cons_of_mem _ hy)
    have h2 := h x (List.mem_cons_self ..)
    rw [List.countP_cons, List.countP_cons, List.countP_cons, List.countP_cons]
    cases e1 : p x <;> cases e2 : q x <;> cases e3 : s x <;> cases e4 : t x <;> rw [e1, e2, e3, e4] at h2 <;> simp at h2 ⊢ <;> omega
theorem countP_four_lt {α : Type} {p q s t : α → Bool} {c : α} : ∀ (l : List α), (∀ x, x ∈ l → (p x).toNat + (q x).toNat ≤ (s x).toNat + (t x).toNat) → c ∈ l → (p c).toNat + (q c).toNat < (s c).toNat + (t c).toNat → l.countP p + l.countP q < l.countP s + l.countP t
  | [], _, hc, _ => by cases hc
  | x :: l, h, hc, hlt => by
    have h2 := h x (List.mem_cons_self ..)
    rw [List.countP_cons, List.countP_cons, List.countP_cons, List.countP_cons]
    rcases List.mem_cons.1 hc with e | hc'
    · have h1 := countP_four l fun y hy => h y (List.mem_cons_of_mem _ hy)
      rw [e] at hlt
      cases e1 : p x <;> cases e2 : q x <;> cases e3 : s x <;> cases e4 : t x <;> rw [e1, e2, e3, e4] at hlt <;> simp at hlt ⊢ <;> omega
    · have h1 := countP_four_lt l (fun y hy => h y (List.mem_cons_of_mem _ hy)) hc' hlt
      cases e1 : p x <;> cases e2 : q x <;> cases e3 : s x <;> cases e4 : t x <;> rw [e1, e2, e3, e4] at h2 <;> simp at h2 ⊢ <;> omega

theorem pop_and_or (Y Z : Nat) : pop (Y &&& Z) + pop (Y ||| Z) = pop Y + pop Z := by
  apply Nat.le_antisymm
  · refine countP_four _ fun x _ => ?_
    rw [Nat.testBit_and, Nat.testBit_or]
    cases Y.testBit x <;> cases Z.testBit x <;> decide
  · refine countP_four _ fun x _ => ?_
    rw [Nat.testBit_and, Nat.testBit_or]
    cases Y.testBit x <;> cases Z.testBit x <;> decide
theorem pop_mono {Y Z : Nat} (h : ∀ j, Y.testBit j = true → Z.testBit j = true) : pop Y ≤ pop Z := List.countP_mono_left fun j _ hj => h j hj

/-- A wire that is not cut, between two different ones of a set of groups of nodes. -/
def crossK (ws : List (Nat × Nat)) (r : Nat → Nat) (b L k : Nat) : Bool := !b.testBit k && match ws[k]? with | some w => !(r w.1 == r w.2) && (L.testBit (r w.1) && L.testBit (r w.2)) | none => false
def crossW (ws : List (Nat × Nat)) (r : Nat → Nat) (b L : Nat) : Nat := (List.range 9).countP (crossK ws r b L)

theorem crossK_iff {ws : List (Nat × Nat)} {r : Nat → Nat} {b L k : Nat} : crossK ws r b L k = true ↔ b.testBit k = false ∧ ∃ w, ws[k]? = some w ∧ r w.1 ≠ r w.2 ∧ L.testBit (r w.1) = true ∧ L.testBit (r w.2) = true := by
  unfold crossK
  rw [Bool.and_eq_true, Bool.not_eq_true']
  refine and_congr_right fun _ => ?_
  cases e : ws[k]? with
  | none => simp
  | some w => simp
theorem crossK_mono {ws : List (Nat × Nat)} {r : Nat → Nat} {b Y Z k : Nat} (h : ∀ j, Y.testBit j = true → Z.testBit j = true) (hk : crossK ws r b Y k = true) : crossK ws r b Z k = true := by
  rw [crossK_iff] at hk ⊢
  obtain ⟨h1, w, h2, h3, h4, h5⟩ := hk
  exact ⟨h1, w, h2, h3, h _ h4, h _ h5⟩
theorem crossK_and {ws : List (Nat × Nat)} {r : Nat → Nat} {b Y Z k : Nat} (h1 : crossK ws r b Y k = true) (h2 : crossK ws r b Z k = true) : crossK ws r b (Y &&& Z) k = true := by
  rw [crossK_iff] at h1 h2 ⊢
  obtain ⟨q1, w, q2, q3, q4, q5⟩ := h1
  obtain ⟨_, w', p2, _, p4, p5⟩ := h2
  rw [q2] at p2; cases p2
  exact ⟨q1, w, q2, q3, by rw [Nat.testBit_and, q4, p4]; rfl, by rw [Nat.testBit_and, q5, p5]; rfl⟩
theorem or_left {Y Z : Nat} : ∀ j, Y.testBit j = true → (Y ||| Z).testBit j = true := fun j h => by rw [Nat.testBit_or, h]; rfl
theorem or_right {Y Z : Nat} : ∀ j, Z.testBit j = true → (Y ||| Z).testBit j = true := fun j h => by rw [Nat.testBit_or, h, Bool.or_true]
theorem cross_four {ws : List (Nat × Nat)} {r : Nat → Nat} {b Y Z : Nat} (k : Nat) : (crossK ws r b Y k).toNat + (crossK ws r b Z k).toNat ≤ (crossK ws r b (Y &&& Z) k).toNat + (crossK ws r b (Y ||| Z) k).toNat := by
  cases e1 : crossK ws r b Y k with
  | true =>
    have e4 := crossK_mono (or_left (Z := Z)) e1
    cases e2 : crossK ws r b Z k with
    | true => rw [crossK_and e1 e2, e4]; decide
    | false => rw [e4]; cases crossK ws r b (Y &&& Z) k <;> decide
  | false =>
    cases e2 : crossK ws r b Z k with
    | true => rw [crossK_mono (or_right (Y := Y)) e2]; cases crossK ws r b (Y &&& Z) k <;> decide
    | false => simp
theorem cross_super {ws : List (Nat × Nat)} {r : Nat → Nat} {b Y Z : Nat} : crossW ws r b Y + crossW ws r b Z ≤ crossW ws r b (Y &&& Z) + crossW ws r b (Y ||| Z) :=
  countP_four _ fun k _ => cross_four k
theorem cross_super_lt {ws : List (Nat × Nat)} {r : Nat → Nat} {b Y Z k : Nat} (hk : k < 9) (h1 : crossK ws r b Y k = false) (h2 : crossK ws r b Z k = false) (h3 : crossK ws r b (Y ||| Z) k = true) : crossW ws r b Y + crossW ws r b Z < crossW ws r b (Y &&& Z) + crossW ws r b (Y ||| Z) :=
  countP_four_lt _ (fun k _ => cross_four k) (List.mem_range.2 hk) (by rw [h1, h2, h3]; cases crossK ws r b (Y &&& Z) k <;> decide)

/-- No set of groups has many wires within. -/
def Sparse (ws : List (Nat × Nat)) (r : Nat → Nat) (b : Nat) : Prop := ∀ L, L < 2 ^ 5 → 2 ≤ pop L → crossW ws r b L + 3 ≤ 2 * pop L
def Tight (ws : List (Nat × Nat)) (r : Nat → Nat) (b L : Nat) : Prop := L < 2 ^ 5 ∧ 2 ≤ pop L ∧ crossW ws r b L + 3 = 2 * pop L

theorem tight_both {ws : List (Nat × Nat)} {r : Nat → Nat} {b Y Z : Nat} (hs : Sparse ws r b) (hY : Tight ws r b Y) (hZ : Tight ws r b Z) (h2 : 2 ≤ pop (Y &&& Z)) :
    Tight ws r b (Y &&& Z) ∧ Tight ws r b (Y ||| Z) ∧ ∀ k, k < 9 → crossK ws r b (Y ||| Z) k = true → crossK ws r b Y k = true ∨ crossK ws r b Z k = true := by
  obtain ⟨y1, y2, y3⟩ := hY
  obtain ⟨z1, z2, z3⟩ := hZ
  have hp := pop_and_or Y Z
  have hA : Y &&& Z < 2 ^ 5 := Nat.and_lt_two_pow _ z1
  have hO : Y ||| Z < 2 ^ 5 := Nat.or_lt_two_pow y1 z1
  have hO2 : 2 ≤ pop (Y ||| Z) := Nat.le_trans y2 (pop_mono or_left)
  have sA := hs _ hA h2
  have sO := hs _ hO hO2
  have hc := cross_super (ws := ws) (r := r) (b := b) (Y := Y) (Z := Z)
  refine ⟨⟨hA, h2, by omega⟩, ⟨hO, hO2, by omega⟩, fun k hk h => ?_⟩
  cases e1 : crossK ws r b Y k with
  | true => exact .inl rfl
  | false =>
    cases e2 : crossK ws r b Z k with
    | true => exact .inr rfl
    | false =>
      have := cross_super_lt hk e1 e2 h
      omega

/-- Two of a set make two. -/
theorem pop_pair {L u v : Nat} (hu : u < 5) (hv : v < 5) (hne : u ≠ v) (h1 : L.testBit u = true) (h2 : L.testBit v = true) : 2 ≤ pop L := by
  have h : pop ((1 <<< u) ||| (1 <<< v)) = 2 := by
    rw [pop_add (x := 1 <<< u) (v := v)]
    · have := pop_add (x := 0) (v := u) (by decide) (by omega) (Nat.zero_testBit _)
      rw [Nat.zero_or] at this; rw [this]; rfl
    · rw [Nat.one_shiftLeft]; exact Nat.pow_lt_pow_right (by decide) (by omega)
    · omega
    · rw [one_bit]; simp; omega
  rw [← h]
  refine pop_mono fun j hj => ?_
  rw [with_bit, one_bit, Bool.or_eq_true, decide_eq_true_eq, decide_eq_true_eq] at hj
  rcases hj with rfl | rfl
  · exact h1
  · exact h2

theorem cross_lt {ws : List (Nat × Nat)} (hl : ws.length ≤ 8) {r : Nat → Nat} {b L k : Nat} (h : crossK ws r b L k = true) : k < ws.length ∧ k < 9 := by
  obtain ⟨_, w, h2, _⟩ := crossK_iff.1 h
  have := (List.getElem?_eq_some_iff.1 h2).1
  exact ⟨this, by omega⟩
theorem cross_some {ws : List (Nat × Nat)} {r : Nat → Nat} {b L : Nat} (h : 1 ≤ crossW ws r b L) : ∃ k, crossK ws r b L k = true := by
  have : 0 < (List.range 9).countP (crossK ws r b L) := h
  rw [List.countP_pos_iff] at this
  obtain ⟨k, _, hk⟩ := this
  exact ⟨k, hk⟩

/-- A wire that is in each tight set that has both of two groups. -/
theorem tight_least {ws : List (Nat × Nat)} {r : Nat → Nat} {b p q : Nat} (hs : Sparse ws r b) (hp : p < 5) (hq : q < 5) (hne : p ≠ q) : ∀ (m Y : Nat), Y ≤ m → Tight ws r b Y → Y.testBit p = true → Y.testBit q = true →
    ∃ k, ∀ Z, Tight ws r b Z → Z.testBit p = true → Z.testBit q = true → crossK ws r b Z k = true := by
  intro m
  induction m with
  | zero =>
    intro Y h0 _ h _
    rw [show Y = 0 by omega, Nat.zero_testBit] at h; cases h
  | succ m ih =>
    intro Y hY hT hYp hYq
    by_cases hex : ∃ Y', Y' ≤ m ∧ Tight ws r b Y' ∧ Y'.testBit p = true ∧ Y'.testBit q = true
    · obtain ⟨Y', h1, h2, h3, h4⟩ := hex
      exact ih Y' h1 h2 h3 h4
    · obtain ⟨k, hk⟩ := cross_some (ws := ws) (r := r) (b := b) (L := Y) (by obtain ⟨_, h2, h3⟩ := hT; omega)
      refine ⟨k, fun Z hZ hZp hZq => ?_⟩
      have hp' : (Y &&& Z).testBit p = true := by rw [Nat.testBit_and, hYp, hZp]; rfl
      have hq' : (Y &&& Z).testBit q = true := by rw [Nat.testBit_and, hYq, hZq]; rfl
      have h2 : 2 ≤ pop (Y &&& Z) := pop_pair hp hq hne hp' hq'
      have hA := (tight_both hs hT hZ h2).1
      have hle : Y &&& Z ≤ Y := Nat.and_le_left
      have heq : Y &&& Z = Y := by
        apply Classical.byContradiction
        intro hn
        exact hex ⟨Y &&& Z, by omega, hA, hp', hq'⟩
      refine crossK_mono (Y := Y) (fun j hj => ?_) hk
      rw [← heq, Nat.testBit_and, Bool.and_eq_true] at hj
      exact hj.2

/-- The greatest tight set with one wire, and without another one. -/
theorem tight_most {ws : List (Nat × Nat)} (hl : ws.length ≤ 8) {r : Nat → Nat} (hr : ∀ v, r v < 5) {b f e : Nat} (hs : Sparse ws r b) : ∀ (m Y : Nat), 32 ≤ Y + m → Tight ws r b Y → crossK ws r b Y f = true → crossK ws r b Y e = false →
    ∃ Y, Tight ws r b Y ∧ crossK ws r b Y f = true ∧ crossK ws r b Y e = false ∧ ∀ Z, Tight ws r b Z → crossK ws r b Z f = true → crossK ws r b Z e = false → ∀ j, Z.testBit j = true → Y.testBit j = true := by
  intro m
  induction m with
  | zero => intro Y h hT; have := hT.1; omega
  | succ m ih =>
    intro Y hY hT hf he
    by_cases hex : ∃ Y', 32 ≤ Y' + m ∧ Tight ws r b Y' ∧ crossK ws r b Y' f = true ∧ crossK ws r b Y' e = false
    · obtain ⟨Y', h1, h2, h3, h4⟩ := hex
      exact ih Y' h1 h2 h3 h4
    · refine ⟨Y, hT, hf, he, fun Z hZ hZf hZe => ?_⟩
      have hA := crossK_and hf hZf
      have h2 : 2 ≤ pop (Y &&& Z) := by
        obtain ⟨_, w, h2, h3, h4, h5⟩ := crossK_iff.1 hA
        exact pop_pair (hr _) (hr _) h3 h4 h5
      obtain ⟨_, hO, hC⟩ := tight_both hs hT hZ h2
      have hle : Y ≤ Y ||| Z := Nat.left_le_or
      have hOe : crossK ws r b (Y ||| Z) e = false := by
        cases h : crossK ws r b (Y ||| Z) e with
        | false => rfl
        | true =>
          rcases hC e (cross_lt hl h).2 h with h' | h'
          · rw [he] at h'; cases h'
          · rw [hZe] at h'; cases h'
      have heq : Y ||| Z = Y := by
        apply Classical.byContradiction
        intro hn
        exact hex ⟨Y ||| Z, by omega, hO, crossK_mono or_left hf, hOe⟩
      intro j hj
      rw [← heq]; exact or_right j hj

/-- What a set of groups is, if the groups of a set become one. -/
def merge (r : Nat → Nat) (Y y : Nat) : Nat → Nat := fun v => if Y.testBit (r v) = true then y else r v

/-- A wire cut, and another one taken for good: what comes out has no many wires within either. -/
theorem sparse_merge {ws : List (Nat × Nat)} (hl : ws.length ≤ 8) {r : Nat → Nat} (hr : ∀ v, r v < 5) {b f e Y y : Nat} (hs : Sparse ws r b) (hY : Tight ws r b Y) (hf : crossK ws r b Y f = true) (he : crossK ws r b Y e = false) (hy : Y.testBit y = true)
    (hmost : ∀ Z, Tight ws r b Z → crossK ws r b Z f = true → crossK ws r b Z e = false → ∀ j, Z.testBit j = true → Y.testBit j = true) : Sparse ws (merge r Y y) (b ||| (1 <<< e)) := by
  intro L hL hL2
  have less : ∀ {Z k : Nat}, crossK ws r (b ||| (1 <<< e)) Z k = true → crossK ws r b Z k = true := fun {Z k} h => by
    rw [crossK_iff] at h ⊢
    refine ⟨?_, h.2⟩
    have := h.1
    rw [with_bit, Bool.or_eq_false_iff] at this
    exact this.1
  cases hLy : L.testBit y with
  | false =>
    have : crossW ws (merge r Y y) (b ||| (1 <<< e)) L ≤ crossW ws r b L := by
      refine List.countP_mono_left fun k _ hk => ?_
      rw [crossK_iff] at hk
      obtain ⟨h1, w, h2, h3, h4, h5⟩ := hk
      refine less (crossK_iff.2 ⟨h1, w, h2, ?_⟩)
      have keep : ∀ v, L.testBit (merge r Y y v) = true → merge r Y y v = r v := fun v hv => by
        unfold merge at hv ⊢
        split
        · rename_i h; rw [if_pos h, hLy] at hv; cases hv
        · rfl
      rw [keep _ h4] at h3 h4
      rw [keep _ h5] at h3 h5
      exact ⟨h3, h4, h5⟩
    have := hs L hL hL2
    omega
  | true =>
    -- the wires of what comes out, and those that were within before
    have hsum : crossW ws (merge r Y y) (b ||| (1 <<< e)) L + crossW ws r (b ||| (1 <<< e)) Y ≤ 0 + crossW ws r (b ||| (1 <<< e)) (L ||| Y) := by
      have h0 : 0 = (List.range 9).countP (fun _ => false) := by simp
      rw [h0]
      refine countP_four _ fun k _ => ?_
      cases e1 : crossK ws (merge r Y y) (b ||| (1 <<< e)) L k with
      | true =>
        obtain ⟨h1, w, h2, h3, h4, h5⟩ := crossK_iff.1 e1
        have at' : ∀ v, L.testBit (merge r Y y v) = true → (L ||| Y).testBit (r v) = true := fun v hv => by
          unfold merge at hv
          split at hv
          · rename_i h; exact or_right _ h
          · exact or_left _ hv
        have hne : r w.1 ≠ r w.2 := fun h => h3 (by unfold merge; rw [h])
        rw [crossK_iff.2 ⟨h1, w, h2, hne, at' _ h4, at' _ h5⟩]
        have : crossK ws r (b ||| (1 <<< e)) Y k = false := by
          cases e2 : crossK ws r (b ||| (1 <<< e)) Y k with
          | false => rfl
          | true =>
            obtain ⟨_, w', p2, _, p4, p5⟩ := crossK_iff.1 e2
            rw [h2] at p2; cases p2
            exact (h3 (by unfold merge; rw [if_pos p4, if_pos p5])).elim
        rw [this]; decide
      | false =>
        cases e2 : crossK ws r (b ||| (1 <<< e)) Y k with
        | true => rw [crossK_mono (or_right (Y := L)) e2]; decide
        | false => simp
    have hYs : crossW ws r (b ||| (1 <<< e)) Y = crossW ws r b Y := by
      unfold crossW
      congr 1
      funext k
      rw [Bool.eq_iff_iff]
      refine ⟨less, fun h => ?_⟩
      have := h
      rw [crossK_iff] at this ⊢
      refine ⟨?_, this.2⟩
      rw [with_bit, this.1]
      have : k ≠ e := fun h' => by rw [h', he] at h; cases h
      simp [this]
    have hp := pop_and_or L Y
    have hA1 : 1 ≤ pop (L &&& Y) := by
      have := pop_mono (Y := 1 <<< y) (Z := L &&& Y) fun j hj => by
        rw [one_bit, decide_eq_true_eq] at hj
        subst hj
        rw [Nat.testBit_and, hLy, hy]; rfl
      have h1 : pop (1 <<< y) = 1 := by
        have := pop_add (x := 0) (v := y) (by decide) (by have := bit_small hY.1 hy; omega) (Nat.zero_testBit _)
        rw [Nat.zero_or] at this; rw [this]; rfl
      omega
    obtain ⟨y1, y2, y3⟩ := id hY
    have hO : L ||| Y < 2 ^ 5 := Nat.or_lt_two_pow hL y1
    have hO2 : 2 ≤ pop (L ||| Y) := Nat.le_trans hL2 (pop_mono or_left)
    by_cases hin : ∀ j, L.testBit j = true → Y.testBit j = true
    · have heq : L ||| Y = Y := by
        apply Nat.eq_of_testBit_eq
        intro j
        rw [Nat.testBit_or]
        cases h : L.testBit j with
        | true => rw [hin j h]; rfl
        | false => rfl
      rw [heq] at hsum
      omega
    · have hZ : crossW ws r (b ||| (1 <<< e)) (L ||| Y) + 4 ≤ 2 * pop (L ||| Y) := by
        have hsO := hs _ hO hO2
        have hle : crossW ws r (b ||| (1 <<< e)) (L ||| Y) ≤ crossW ws r b (L ||| Y) := List.countP_mono_left fun k _ hk => less hk
        cases h : crossK ws r b (L ||| Y) e with
        | true =>
          have : crossW ws r (b ||| (1 <<< e)) (L ||| Y) + 1 ≤ crossW ws r b (L ||| Y) := by
            refine countP_lt (c := e) (fun k _ hk => less hk) (List.mem_range.2 (cross_lt hl h).2) h ?_
            cases h' : crossK ws r (b ||| (1 <<< e)) (L ||| Y) e with
            | false => rfl
            | true =>
              have := (crossK_iff.1 h').1
              rw [with_bit] at this; simp at this
          omega
        | false =>
          have : ¬ Tight ws r b (L ||| Y) := fun ht => hin fun j hj => hmost _ ht (crossK_mono or_right hf) h j (or_left j hj)
          have : crossW ws r b (L ||| Y) + 3 ≠ 2 * pop (L ||| Y) := fun h' => this ⟨hO, hO2, h'⟩
          omega
      omega

end Go.Proofs.YtbmmcldbllhhhaaDoor

/- Who cuts first wins a net that is put together so that no set has many wires within. No program text. -/
set_option maxRecDepth 20000
namespace Go.Proofs.YtbmmcldbllhhhaaDoor
open Go Go.Ip G

/-- What the second one keeps: groups in which the wires of the first one lie, the ends in two of them, and no set of them with many wires within. -/
def CutInv (ws : List (Nat × Nat)) (r : Nat → Nat) (a b : Nat) : Prop := (∀ v, r v < 5) ∧ (∀ k w, ws[k]? = some w → a.testBit k = true → r w.1 = r w.2) ∧ r 0 ≠ r 1 ∧ Sparse ws r b

theorem conn_group {ws : List (Nat × Nat)} {r : Nat → Nat} {S u v : Nat} (h : ∀ k w, ws[k]? = some w → S.testBit k = true → r w.1 = r w.2) (hc : Conn ws S u v) : r u = r v := by
  induction hc with
  | refl => rfl
  | fwd _ hw hs e ih => rw [ih, ← e]; exact h _ _ hw hs
  | bwd _ hw hs e ih => rw [ih, ← e]; exact (h _ _ hw hs).symm
theorem CutInv.link {nodes : Nat} {ws : List (Nat × Nat)} (hn : NetN nodes ws) {r : Nat → Nat} {a b : Nat} (h : CutInv ws r a b) : linkW ws a = false := by
  cases e : linkW ws a with
  | false => rfl
  | true => exact (h.2.2.1 (conn_group h.2.1 ((link_iff hn).1 e))).elim

/-- A wire cut so that whatever is taken then, it is so again. -/
theorem CutInv.step {nodes : Nat} {ws : List (Nat × Nat)} (hn : NetN nodes ws) {r : Nat → Nat} {a b : Nat} (hp : gPos ws.length a b) (h : CutInv ws r a b) (hfree : ∃ k, k < ws.length ∧ (a ||| b).testBit k = false) :
    ∃ e, e < ws.length ∧ (a ||| b).testBit e = false ∧ ∀ f, f < ws.length → (a ||| (b ||| (1 <<< e))).testBit f = false → ∃ r', CutInv ws r' (a ||| (1 <<< f)) (b ||| (1 <<< e)) := by
  obtain ⟨hr, hA, hne, hs⟩ := id h
  obtain ⟨_, _, hl, _⟩ := id hn
  have hl' : ws.length ≤ 8 := hl
  -- the wire that is cut
  have hcut : ∃ e, e < ws.length ∧ (a ||| b).testBit e = false ∧ ∀ Z, Tight ws r b Z → Z.testBit (r 0) = true → Z.testBit (r 1) = true → crossK ws r b Z e = true := by
    by_cases hex : ∃ Z, Tight ws r b Z ∧ Z.testBit (r 0) = true ∧ Z.testBit (r 1) = true
    · obtain ⟨Z, z1, z2, z3⟩ := hex
      obtain ⟨e, he⟩ := tight_least hs (hr 0) (hr 1) hne Z Z (Nat.le_refl _) z1 z2 z3
      have heZ := he Z z1 z2 z3
      refine ⟨e, (cross_lt hl' heZ).1, ?_, he⟩
      obtain ⟨q1, w, q2, q3, _⟩ := crossK_iff.1 heZ
      rw [Nat.testBit_or, q1, Bool.or_false]
      cases ea : a.testBit e with
      | false => rfl
      | true => exact (q3 (hA e w q2 ea)).elim
    · obtain ⟨k, k1, k2⟩ := hfree
      exact ⟨k, k1, k2, fun Z z1 z2 z3 => (hex ⟨Z, z1, z2, z3⟩).elim⟩
  obtain ⟨e, e1, e2, e3⟩ := hcut
  refine ⟨e, e1, e2, fun f hf hff => ?_⟩
  rw [Nat.testBit_or, with_bit, Bool.or_eq_false_iff, Bool.or_eq_false_iff, decide_eq_false_iff_not] at hff
  obtain ⟨f1, f2, f3⟩ := hff
  have sless : Sparse ws r (b ||| (1 <<< e)) := fun L h1 h2 => Nat.le_trans (Nat.add_le_add_right (List.countP_mono_left fun k _ hk => by
    rw [crossK_iff] at hk ⊢
    refine ⟨?_, hk.2⟩
    have := hk.1
    rw [with_bit, Bool.or_eq_false_iff] at this
    exact this.1) 3) (hs L h1 h2)
  have hfw : ∃ w, ws[f]? = some w := ⟨_, List.getElem?_eq_some_iff.2 ⟨hf, rfl⟩⟩
  obtain ⟨w, hw⟩ := hfw
  by_cases hin : r w.1 = r w.2
  · refine ⟨r, hr, fun k x hx hk => ?_, hne, sless⟩
    rw [with_bit, Bool.or_eq_true, decide_eq_true_eq] at hk
    rcases hk with hk | rfl
    · exact hA k x hx hk
    · rw [hw] at hx; cases hx; exact hin
  · -- the two groups of the wire that is taken
    have b1 : ((1 <<< r w.1) ||| (1 <<< r w.2)).testBit (r w.1) = true := by rw [with_bit, one_bit]; simp
    have b2 : ((1 <<< r w.1) ||| (1 <<< r w.2)).testBit (r w.2) = true := by rw [with_bit]; simp
    have hpop : pop ((1 <<< r w.1) ||| (1 <<< r w.2)) = 2 := by
      have h5 := hr w.1
      have h6 := hr w.2
      rw [pop_add (x := 1 <<< r w.1) (v := r w.2)]
      · have := pop_add (x := 0) (v := r w.1) (by decide) (by omega) (Nat.zero_testBit _)
        rw [Nat.zero_or] at this; rw [this]; rfl
      · rw [Nat.one_shiftLeft]; exact Nat.pow_lt_pow_right (by decide) (by omega)
      · omega
      · rw [one_bit]; simp; omega
    have hlt : (1 <<< r w.1) ||| (1 <<< r w.2) < 2 ^ 5 := Nat.or_lt_two_pow (by rw [Nat.one_shiftLeft]; exact Nat.pow_lt_pow_right (by decide) (hr _)) (by rw [Nat.one_shiftLeft]; exact Nat.pow_lt_pow_right (by decide) (hr _))
    have hfP : crossK ws r b ((1 <<< r w.1) ||| (1 <<< r w.2)) f = true := crossK_iff.2 ⟨f2, w, hw, hin, b1, b2⟩
    have hsP := hs _ hlt (by omega)
    have hc1 : 1 ≤ crossW ws r b ((1 <<< r w.1) ||| (1 <<< r w.2)) := by
      have : 0 < (List.range 9).countP (crossK ws r b ((1 <<< r w.1) ||| (1 <<< r w.2))) := List.countP_pos_iff.2 ⟨f, List.mem_range.2 (cross_lt hl' hfP).2, hfP⟩
      exact this
    have heP : crossK ws r b ((1 <<< r w.1) ||| (1 <<< r w.2)) e = false := by
      cases he : crossK ws r b ((1 <<< r w.1) ||| (1 <<< r w.2)) e with
      | false => rfl
      | true =>
        have h2 : (List.range 9).countP (fun k => decide (k = f)) + 1 ≤ (List.range 9).countP (crossK ws r b ((1 <<< r w.1) ||| (1 <<< r w.2))) := by
          refine countP_lt (c := e) (fun k _ hk => ?_) (List.mem_range.2 (cross_lt hl' he).2) he ?_
          · rw [decide_eq_true_eq] at hk; rw [hk]; exact hfP
          · rw [decide_eq_false_iff_not]; exact fun h => f3 h.symm
        have h3 : 0 < (List.range 9).countP (fun k => decide (k = f)) := List.countP_pos_iff.2 ⟨f, List.mem_range.2 (cross_lt hl' hfP).2, by simp⟩
        have : crossW ws r b ((1 <<< r w.1) ||| (1 <<< r w.2)) = (List.range 9).countP (crossK ws r b ((1 <<< r w.1) ||| (1 <<< r w.2))) := rfl
        omega
    obtain ⟨Y, y1, y2, y3, y4⟩ := tight_most hl' hr (f := f) (e := e) hs 32 _ (by omega) ⟨hlt, by omega, by omega⟩ hfP heP
    obtain ⟨_, w', p2, p3, p4, p5⟩ := crossK_iff.1 y2
    rw [hw] at p2; cases p2
    refine ⟨merge r Y (r w.1), fun v => ?_, fun k x hx hk => ?_, ?_, sparse_merge hl' hr hs y1 y2 y3 p4 y4⟩
    · unfold merge; split
      · exact hr _
      · exact hr _
    · rw [with_bit, Bool.or_eq_true, decide_eq_true_eq] at hk
      rcases hk with hk | rfl
      · unfold merge; rw [hA k x hx hk]
      · rw [hw] at hx; cases hx
        unfold merge; rw [if_pos p4, if_pos p5]
    · unfold merge
      cases h0 : Y.testBit (r 0) with
      | true =>
        cases h1 : Y.testBit (r 1) with
        | true => rw [e3 Y y1 h0 h1] at y3; cases y3
        | false =>
          rw [if_pos rfl, if_neg (by decide)]
          intro h'; rw [h', h1] at p4; cases p4
      | false =>
        cases h1 : Y.testBit (r 1) with
        | true =>
          rw [if_neg (by decide), if_pos rfl]
          intro h'; rw [← h', h0] at p4; cases p4
        | false => rw [if_neg (by decide), if_neg (by decide)]; exact hne

theorem sparse_second {nodes : Nat} {ws : List (Nat × Nat)} (hn : NetN nodes ws) : ∀ (m a b : Nat) (r : Nat → Nat), frN ws.length a b ≤ m → gPos ws.length a b → CutInv ws r a b → gWin ws.length (linkW ws) (cutW ws) a b 2 = 2 := by
  intro m
  induction m using Nat.strongRecOn with
  | _ m ih =>
  intro a b r hm hp hI
  have hG := wire_game hn
  have k1 := hI.link hn
  cases k2 : cutW ws b with
  | true => exact gw_second hG hp k2
  | false =>
  obtain ⟨e, e1, e2, e3⟩ := hI.step hn hp (hp.free hG k1 k2)
  rw [gw_open k1 k2, if_pos]
  refine gMove_iff.2 ⟨e, e1, e2, ?_⟩
  have hpe := hp.put (t := 2) e1 e2
  have hfe := fr_put (t := 2) e1 e2
  have hpe : gPos ws.length a (b ||| (1 <<< e)) := hpe
  have hfe : frN ws.length a (b ||| (1 <<< e)) + 1 ≤ frN ws.length a b := hfe
  show gWin ws.length (linkW ws) (cutW ws) a (b ||| (1 <<< e)) 1 = 2
  cases k3 : cutW ws (b ||| (1 <<< e)) with
  | true => exact gw_second hG hpe k3
  | false =>
    rw [gw_open k1 k3, if_neg]
    intro hmv
    obtain ⟨f, f1, f2, f3⟩ := gMove_iff.1 hmv
    obtain ⟨r', hr'⟩ := e3 f f1 f2
    have hpf := hpe.put (t := 1) f1 f2
    have hff := fr_put (t := 1) f1 f2
    have := ih (frN ws.length (putA 1 f a) (putB 1 f (b ||| (1 <<< e)))) (by omega) _ _ r' (Nat.le_refl _) hpf hr'
    rw [show (3 - 1 : Nat) = 2 from rfl] at f3
    rw [this] at f3; cases f3

end Go.Proofs.YtbmmcldbllhhhaaDoor

/- Groups with many wires between them: on some of them there are two trees without a common wire. No program text. -/
set_option maxRecDepth 20000
namespace Go.Proofs.YtbmmcldbllhhhaaDoor
open Go Go.Ip G

/-- Sums over the first numbers. -/
def sumQ (F : Nat → Nat) : Nat → Nat
  | 0 => 0
  | n + 1 => sumQ F n + F n
theorem sumQ_le {F G : Nat → Nat} : ∀ {n : Nat}, (∀ i, i < n → F i ≤ G i) → sumQ F n ≤ sumQ G n
  | 0, _ => Nat.le_refl _
  | n + 1, h => Nat.add_le_add (sumQ_le fun i hi => h i (by omega)) (h n (by omega))
theorem sumQ_congr {F G : Nat → Nat} : ∀ {n : Nat}, (∀ i, i < n → F i = G i) → sumQ F n = sumQ G n
  | 0, _ => rfl
  | n + 1, h => by rw [sumQ, sumQ, sumQ_congr fun i hi => h i (by omega), h n (by omega)]
theorem sumQ_add {F G : Nat → Nat} : ∀ {n : Nat}, sumQ (fun i => F i + G i) n = sumQ F n + sumQ G n
  | 0 => rfl
  | n + 1 => by rw [sumQ, sumQ, sumQ, sumQ_add]; omega
theorem sumQ_zero : ∀ {n : Nat}, sumQ (fun _ => 0) n = 0
  | 0 => rfl
  | n + 1 => by rw [sumQ, sumQ_zero]
theorem sumQ_one {c : Nat} : ∀ {n : Nat}, c < n → sumQ (fun i => if c = i then 1 else 0) n = 1
  | 0, h => by omega
  | n + 1, h => by
    rw [sumQ]
    by_cases e : c = n
    · rw [if_pos e]
      have : sumQ (fun i => if c = i then 1 else 0) n = sumQ (fun _ => 0) n := sumQ_congr fun i hi => if_neg (by omega)
      rw [this, sumQ_zero]
    · rw [if_neg e, sumQ_one (by omega)]
theorem count_splitQ {n : Nat} {P : Nat → Bool} {g : Nat → Nat} : ∀ (l : List Nat), (∀ k, k ∈ l → P k = true → g k < n) → l.countP P = sumQ (fun i => l.countP fun k => P k && (g k == i)) n
  | [], _ => by simp only [List.countP_nil]; exact sumQ_zero.symm
  | k :: l, h => by
    have ih := count_splitQ l fun j hj => h j (List.mem_cons_of_mem _ hj)
    rw [List.countP_cons, ih]
    have : sumQ (fun i => (k :: l).countP fun k => P k && (g k == i)) n = sumQ (fun i => (l.countP fun k => P k && (g k == i)) + (if (P k && (g k == i)) = true then 1 else 0)) n :=
      sumQ_congr fun i _ => List.countP_cons
    rw [this, sumQ_add]
    congr 1
    cases e : P k with
    | false => simp only [Bool.false_and, Bool.false_eq_true, if_false]; exact sumQ_zero.symm
    | true =>
      rw [if_pos rfl]
      refine (sumQ_one (h k (List.mem_cons_self ..) e)).symm.trans (sumQ_congr fun i _ => ?_)
      simp only [Bool.true_and, beq_iff_eq]
theorem countP_one {P : Nat → Bool} : ∀ (l : List Nat), l.Nodup → (∀ x y, x ∈ l → y ∈ l → P x = true → P y = true → x = y) → l.countP P ≤ 1
  | [], _, _ => by simp
  | x :: l, hn, h => by
    rw [List.nodup_cons] at hn
    rw [List.countP_cons]
    cases e : P x with
    | false => rw [if_neg (by decide)]; exact countP_one l hn.2 fun a b ha hb => h a b (List.mem_cons_of_mem _ ha) (List.mem_cons_of_mem _ hb)
    | true =>
      have : l.countP P = 0 := by
        rw [List.countP_eq_zero]
        intro y hy hP
        have := h x y (List.mem_cons_self ..) (List.mem_cons_of_mem _ hy) e hP
        exact hn.1 (this ▸ hy)
      rw [this]; decide

/-- What is in some of many sets. -/
def bigOr (F : Nat → Nat) (L : Nat) : Nat → Nat
  | 0 => 0
  | n + 1 => bigOr F L n ||| (if L.testBit n = true then F n else 0)
theorem bigOr_bit {F : Nat → Nat} {L j : Nat} : ∀ {n : Nat}, (bigOr F L n).testBit j = true ↔ ∃ u, u < n ∧ L.testBit u = true ∧ (F u).testBit j = true
  | 0 => by rw [bigOr, Nat.zero_testBit]; exact ⟨fun h => (by cases h), fun ⟨u, h, _⟩ => by omega⟩
  | n + 1 => by
    rw [bigOr, Nat.testBit_or, Bool.or_eq_true, bigOr_bit]
    constructor
    · rintro (⟨u, h1, h2, h3⟩ | h)
      · exact ⟨u, by omega, h2, h3⟩
      · split at h
        · rename_i h'; exact ⟨n, by omega, h', h⟩
        · rw [Nat.zero_testBit] at h; cases h
    · rintro ⟨u, h1, h2, h3⟩
      by_cases e : u = n
      · subst e; rw [if_pos h2]; exact .inr h3
      · exact .inl ⟨u, by omega, h2, h3⟩
theorem bigOr_lt {F : Nat → Nat} {L m : Nat} : ∀ {n : Nat}, (∀ u, u < n → L.testBit u = true → F u < 2 ^ m) → bigOr F L n < 2 ^ m
  | 0, _ => Nat.two_pow_pos _
  | n + 1, h => by
    rw [bigOr]
    refine Nat.or_lt_two_pow (bigOr_lt fun u hu => h u (by omega)) ?_
    split
    · rename_i h'; exact h n (by omega) h'
    · exact Nat.two_pow_pos _
theorem pop_or {A B : Nat} (h : ∀ j, A.testBit j = true → B.testBit j = true → False) : pop (A ||| B) = pop A + pop B := by
  have h0 : A &&& B = 0 := by
    apply Nat.eq_of_testBit_eq
    intro j
    rw [Nat.testBit_and, Nat.zero_testBit]
    cases e1 : A.testBit j with
    | false => rfl
    | true =>
      cases e2 : B.testBit j with
      | false => rfl
      | true => exact (h j e1 e2).elim
  have := pop_and_or A B
  rw [h0, show pop 0 = 0 from rfl] at this
  omega
theorem bigOr_pop {F : Nat → Nat} {L : Nat} : ∀ {n : Nat}, (∀ u v, u < n → v < n → L.testBit u = true → L.testBit v = true → u ≠ v → ∀ j, (F u).testBit j = true → (F v).testBit j = true → False) → pop (bigOr F L n) = sumQ (fun u => if L.testBit u = true then pop (F u) else 0) n
  | 0, _ => by show pop 0 = 0; rfl
  | n + 1, h => by
    rw [bigOr, sumQ, ← bigOr_pop fun u v hu hv => h u v (by omega) (by omega), pop_or]
    · congr 1
      split
      · rfl
      · rfl
    · intro j h1 h2
      split at h2
      · rename_i h'
        obtain ⟨u, q1, q2, q3⟩ := bigOr_bit.1 h1
        exact h u n (by omega) (by omega) q2 h' (by omega) j q3 h2
      · rw [Nat.zero_testBit] at h2; cases h2
theorem pop_one {k : Nat} (h : k < 9) : pop (1 <<< k) = 1 := by
  have := pop_add (x := 0) (v := k) (by decide) h (Nat.zero_testBit _)
  rw [Nat.zero_or] at this; rw [this]; rfl
theorem pop_sum : ((List.range 32).all fun L => sumQ (fun u => if L.testBit u = true then 1 else 0) 5 == pop L) = true := by kernel_rfl
theorem pop_sum5 {L : Nat} (h : L < 2 ^ 5) : sumQ (fun u => if L.testBit u = true then 1 else 0) 5 = pop L :=
  beq_iff_eq.1 (List.all_eq_true.1 pop_sum L (List.mem_range.2 h))

/-- The ten pairs of five groups. -/
def prs : List (Nat × Nat) := [(0, 1), (0, 2), (0, 3), (0, 4), (1, 2), (1, 3), (1, 4), (2, 3), (2, 4), (3, 4)]
def pIx (u v : Nat) : Nat := prs.findIdx fun w => w == (u, v) || w == (v, u)
theorem pIx_all : ((List.range 5).all fun u => (List.range 5).all fun v => u == v || (decide (pIx u v < 10) && (prs[pIx u v]? == some (u, v) || prs[pIx u v]? == some (v, u)))) = true := by kernel_rfl
theorem pIx_ok {u v : Nat} (hu : u < 5) (hv : v < 5) (hne : u ≠ v) : pIx u v < 10 ∧ (prs[pIx u v]? = some (u, v) ∨ prs[pIx u v]? = some (v, u)) := by
  have := List.all_eq_true.1 (List.all_eq_true.1 pIx_all u (List.mem_range.2 hu)) v (List.mem_range.2 hv)
  rw [Bool.or_eq_true, beq_iff_eq, Bool.and_eq_true, Bool.or_eq_true, decide_eq_true_eq, beq_iff_eq, beq_iff_eq] at this
  rcases this with h | h
  · exact (hne h).elim
  · exact h
def inP (L i : Nat) : Bool := match prs[i]? with | some w => L.testBit w.1 && L.testBit w.2 | none => false
def eN (A L : Nat) : Nat := sumQ (fun i => if (A.testBit i && inP L i) = true then 1 else 0) 10
/-- Sets of groups, each with two trees of pairs. -/
def trees : List (Nat × Nat × Nat) := [(15, 145, 38), (23, 273, 74), (27, 545, 76), (29, 642, 268), (30, 656, 352), (31, 389, 106), (31, 643, 92), (31, 771, 60), (31, 417, 92), (31, 657, 106), (31, 785, 102), (31, 226, 284), (31, 562, 393), (31, 594, 389), (31, 212, 554), (31, 308, 649), (31, 356, 643), (31, 312, 582), (31, 216, 773), (31, 232, 771)]
theorem dense_all : ((List.range 1024).all fun A => trees.any (fun t => (t.2.1 &&& A == t.2.1) && (t.2.2 &&& A == t.2.2)) || (List.range 32).all fun L => decide (pop L < 2) || decide (eN A L + 2 < 2 * pop L)) = true := by kernel_rfl
def treeOk (L E : Nat) : Bool := decide (E < 1024) && (decide (sumQ (fun i => if E.testBit i = true then 1 else 0) 10 + 1 = pop L) && ((List.range 10).all (fun i => !E.testBit i || inP L i) && (List.range 5).all fun p => !L.testBit p || ((List.range 5).all (fun q => !L.testBit q || (reachF prs E 40 (1 <<< p)).testBit q) && (List.range 10).any fun i => E.testBit i && (match prs[i]? with | some w => w.1 == p || w.2 == p | none => false))))
theorem trees_all : (trees.all fun t => decide (t.1 < 32) && (decide (2 ≤ pop t.1) && (t.2.1 &&& t.2.2 == 0 && (treeOk t.1 t.2.1 && treeOk t.1 t.2.2)))) = true := by kernel_rfl
theorem reachF_in {ws : List (Nat × Nat)} {set u : Nat} : ∀ (f now : Nat), (∀ j, now.testBit j = true → Conn ws set u j) → ∀ j, (reachF ws set f now).testBit j = true → Conn ws set u j
  | 0, _, h, j, hj => h j hj
  | f + 1, now, h, j, hj => by
    rw [reachF] at hj
    split at hj
    · exact h j hj
    · exact reachF_in f _ (stepW_in ws 0 now rfl h) j hj

end Go.Proofs.YtbmmcldbllhhhaaDoor

/- Groups with many wires between them: on some of them there are two trees without a common wire (of the net). No program text. -/
set_option maxRecDepth 20000
namespace Go.Proofs.YtbmmcldbllhhhaaDoor
open Go Go.Ip G

/-- The net between groups. -/
def qn (r : Nat → Nat) (ws : List (Nat × Nat)) : List (Nat × Nat) := ws.map fun w => (r w.1, r w.2)
theorem qn_get {r : Nat → Nat} {ws : List (Nat × Nat)} {k : Nat} {w : Nat × Nat} (h : ws[k]? = some w) : (qn r ws)[k]? = some (r w.1, r w.2) := by
  unfold qn; rw [List.getElem?_map, h]; rfl
theorem qn_of {r : Nat → Nat} {ws : List (Nat × Nat)} {k : Nat} {x : Nat × Nat} (h : (qn r ws)[k]? = some x) : ∃ w, ws[k]? = some w ∧ x = (r w.1, r w.2) := by
  unfold qn at h
  rw [List.getElem?_map] at h
  cases e : ws[k]? with
  | none => rw [e] at h; cases h
  | some w => rw [e] at h; cases h; exact ⟨w, rfl, rfl⟩

/-- A tree on groups. -/
def QTree (ws : List (Nat × Nat)) (r : Nat → Nat) (L T : Nat) : Prop :=
  T < 2 ^ ws.length ∧ (∀ k, T.testBit k = true → crossK ws r 0 L k = true) ∧ pop T + 1 = pop L ∧ ∀ p q, L.testBit p = true → L.testBit q = true → Conn (qn r ws) T p q

/-- Wires between two groups. -/
def jn (ws : List (Nat × Nat)) (r : Nat → Nat) (i k : Nat) : Bool := match ws[k]? with | some w => !(r w.1 == r w.2) && pIx (r w.1) (r w.2) == i | none => false
theorem jn_iff {ws : List (Nat × Nat)} {r : Nat → Nat} {i k : Nat} : jn ws r i k = true ↔ ∃ w, ws[k]? = some w ∧ r w.1 ≠ r w.2 ∧ pIx (r w.1) (r w.2) = i := by
  unfold jn
  cases e : ws[k]? with
  | none => simp
  | some w => simp
/-- The first wire of a pair of groups. -/
def jw (ws : List (Nat × Nat)) (r : Nat → Nat) (i : Nat) : Nat := ((List.range 9).find? (jn ws r i)).getD 0
/-- The pairs of groups that have a wire. -/
def jA (ws : List (Nat × Nat)) (r : Nat → Nat) : Nat := (List.range 10).foldl (fun x i => if ((List.range 9).any (jn ws r i)) = true then x ||| (1 <<< i) else x) 0
theorem fold_bit {P : Nat → Bool} {j : Nat} : ∀ (l : List Nat) (x : Nat), (l.foldl (fun x i => if P i = true then x ||| (1 <<< i) else x) x).testBit j = true ↔ x.testBit j = true ∨ (j ∈ l ∧ P j = true)
  | [], x => by simp
  | i :: l, x => by
    rw [List.foldl_cons, fold_bit l, List.mem_cons]
    by_cases h : P i = true
    · rw [if_pos h, with_bit, Bool.or_eq_true, decide_eq_true_eq]
      constructor
      · rintro ((h1 | h1) | ⟨h1, h2⟩)
        · exact .inl h1
        · subst h1; exact .inr ⟨.inl rfl, h⟩
        · exact .inr ⟨.inr h1, h2⟩
      · rintro (h1 | ⟨h1 | h1, h2⟩)
        · exact .inl (.inl h1)
        · exact .inl (.inr h1)
        · exact .inr ⟨h1, h2⟩
    · rw [if_neg h]
      constructor
      · rintro (h1 | ⟨h1, h2⟩)
        · exact .inl h1
        · exact .inr ⟨.inr h1, h2⟩
      · rintro (h1 | ⟨h1 | h1, h2⟩)
        · exact .inl h1
        · subst h1; exact (h h2).elim
        · exact .inr ⟨h1, h2⟩
theorem jA_bit {ws : List (Nat × Nat)} {r : Nat → Nat} {i : Nat} : (jA ws r).testBit i = true ↔ i < 10 ∧ ∃ k, k < 9 ∧ jn ws r i k = true := by
  unfold jA
  rw [fold_bit, Nat.zero_testBit, List.mem_range, List.any_eq_true]
  constructor
  · rintro (h | ⟨h1, k, h2, h3⟩)
    · cases h
    · exact ⟨h1, k, List.mem_range.1 h2, h3⟩
  · rintro ⟨h1, k, h2, h3⟩
    exact .inr ⟨h1, k, List.mem_range.2 h2, h3⟩
theorem jA_lt {ws : List (Nat × Nat)} {r : Nat → Nat} : jA ws r < 1024 := by
  show _ < 2 ^ 10
  apply Nat.lt_of_not_le
  intro h
  obtain ⟨i, hi, hb⟩ := Nat.exists_ge_and_testBit_of_ge_two_pow h
  exact absurd (jA_bit.1 hb).1 (by omega)
theorem jw_ok {ws : List (Nat × Nat)} {r : Nat → Nat} {i : Nat} (h : (jA ws r).testBit i = true) : jn ws r i (jw ws r i) = true := by
  obtain ⟨_, k, h2, h3⟩ := jA_bit.1 h
  unfold jw
  cases e : (List.range 9).find? (jn ws r i) with
  | none =>
    rw [List.find?_eq_none] at e
    exact (e k (List.mem_range.2 h2) h3).elim
  | some x => exact List.find?_some e
theorem jw_lt {ws : List (Nat × Nat)} {r : Nat → Nat} {i : Nat} (h : (jA ws r).testBit i = true) : jw ws r i < ws.length := by
  obtain ⟨w, h1, _⟩ := jn_iff.1 (jw_ok h)
  exact (List.getElem?_eq_some_iff.1 h1).1

/-- A tree of pairs is a tree of wires. -/
theorem qtree_of {ws : List (Nat × Nat)} (hl : ws.length ≤ 8) {r : Nat → Nat} (hr : ∀ v, r v < 5) {L E : Nat} (hL : L < 32) (hok : treeOk L E = true) (hA : E &&& jA ws r = E) : QTree ws r L (bigOr (fun i => 1 <<< jw ws r i) E 10) := by
  unfold treeOk at hok
  rw [Bool.and_eq_true, Bool.and_eq_true, Bool.and_eq_true, decide_eq_true_eq, decide_eq_true_eq, List.all_eq_true, List.all_eq_true] at hok
  obtain ⟨h1, h2, h3, h4⟩ := hok
  have hEA : ∀ i, E.testBit i = true → (jA ws r).testBit i = true := fun i hi => by
    rw [← hA, Nat.testBit_and, Bool.and_eq_true] at hi
    exact hi.2
  have hE10 : ∀ i, E.testBit i = true → i < 10 := fun i hi => bit_small (n := 10) h1 hi
  have hbit : ∀ {k : Nat}, (bigOr (fun i => 1 <<< jw ws r i) E 10).testBit k = true ↔ ∃ i, i < 10 ∧ E.testBit i = true ∧ k = jw ws r i := fun {k} => by
    rw [bigOr_bit]
    simp only [one_bit, decide_eq_true_eq]
  -- the ends of a pair's wire
  have hends : ∀ i, E.testBit i = true → ∃ w x, ws[jw ws r i]? = some w ∧ prs[i]? = some x ∧ r w.1 ≠ r w.2 ∧ (x = (r w.1, r w.2) ∨ x = (r w.2, r w.1)) := fun i hi => by
    obtain ⟨w, q1, q2, q3⟩ := jn_iff.1 (jw_ok (hEA i hi))
    obtain ⟨_, q5⟩ := pIx_ok (hr w.1) (hr w.2) q2
    rw [q3] at q5
    rcases q5 with q5 | q5
    · exact ⟨w, _, q1, q5, q2, .inl rfl⟩
    · exact ⟨w, _, q1, q5, q2, .inr rfl⟩
  refine ⟨bigOr_lt fun i _ hi => ?_, fun k hk => ?_, ?_, fun p q hp hq => ?_⟩
  · rw [Nat.one_shiftLeft]; exact Nat.pow_lt_pow_right (by decide) (jw_lt (hEA i hi))
  · obtain ⟨i, i1, i2, rfl⟩ := hbit.1 hk
    obtain ⟨w, x, q1, q2, q3, q4⟩ := hends i i2
    have := h3 i (List.mem_range.2 i1)
    rw [i2, Bool.not_true, Bool.false_or] at this
    unfold inP at this
    rw [q2] at this
    rw [crossK_iff]
    refine ⟨Nat.zero_testBit _, w, q1, q3, ?_⟩
    rcases q4 with rfl | rfl
    · have := this
      simp only [Bool.and_eq_true] at this
      exact this
    · have := this
      simp only [Bool.and_eq_true] at this
      exact ⟨this.2, this.1⟩
  · rw [bigOr_pop]
    · rw [← h2]
      congr 1
      refine sumQ_congr fun i _ => ?_
      split
      · rename_i h
        exact pop_one (by have := jw_lt (hEA i h); omega)
      · rfl
    · intro i i' _ _ hi hi' hne j hj hj'
      rw [one_bit, decide_eq_true_eq] at hj hj'
      obtain ⟨w, q1, _, q3⟩ := jn_iff.1 (jw_ok (hEA i hi))
      obtain ⟨w', q1', _, q3'⟩ := jn_iff.1 (jw_ok (hEA i' hi'))
      rw [← hj] at q1
      rw [← hj', q1] at q1'
      cases q1'
      exact hne (q3.symm.trans q3')
  · have lift : ∀ {u v : Nat}, Conn prs E u v → Conn (qn r ws) (bigOr (fun i => 1 <<< jw ws r i) E 10) u v := fun {u v} hc => by
      induction hc with
      | refl => exact .refl
      | fwd _ hw hs e ih =>
        rename_i v' i x hx'
        obtain ⟨w, y, q1, q2, q3, q4⟩ := hends i hs
        rw [hw] at q2; cases q2
        have hb := hbit.2 ⟨i, hE10 i hs, hs, rfl⟩
        have hq := qn_get (r := r) q1
        rcases q4 with rfl | rfl
        · exact .fwd ih hq hb e
        · exact .bwd ih hq hb e
      | bwd _ hw hs e ih =>
        rename_i v' i x hx'
        obtain ⟨w, y, q1, q2, q3, q4⟩ := hends i hs
        rw [hw] at q2; cases q2
        have hb := hbit.2 ⟨i, hE10 i hs, hs, rfl⟩
        have hq := qn_get (r := r) q1
        rcases q4 with rfl | rfl
        · exact .bwd ih hq hb e
        · exact .fwd ih hq hb e
    have hone : ∀ j, (1 <<< p).testBit j = true → Conn prs E p j := fun j hj => by
      rw [one_bit, decide_eq_true_eq] at hj
      subst hj; exact .refl
    have hL5 : ∀ x, L.testBit x = true → x < 5 := fun x hx => bit_small (n := 5) hL hx
    have := h4 p (List.mem_range.2 (hL5 p hp))
    rw [hp, Bool.not_true, Bool.false_or, Bool.and_eq_true, List.all_eq_true] at this
    have hq' := this.1 q (List.mem_range.2 (hL5 q hq))
    rw [hq, Bool.not_true, Bool.false_or] at hq'
    exact lift (reachF_in 40 _ hone q hq')

/-- The groups of a tree of pairs are groups of some node. -/
theorem tree_met {ws : List (Nat × Nat)} {nodes : Nat} (hn : NetN nodes ws) {r : Nat → Nat} (hr : ∀ v, r v < 5) {L E : Nat} (hL : L < 32) (hok : treeOk L E = true) (hA : E &&& jA ws r = E) : ∀ u, L.testBit u = true → ∃ v, v < 5 ∧ r v = u := by
  intro u hu
  unfold treeOk at hok
  rw [Bool.and_eq_true, Bool.and_eq_true, Bool.and_eq_true, decide_eq_true_eq, decide_eq_true_eq, List.all_eq_true, List.all_eq_true] at hok
  obtain ⟨_, _, _, h4⟩ := hok
  have := h4 u (List.mem_range.2 (bit_small (n := 5) hL hu))
  rw [hu, Bool.not_true, Bool.false_or, Bool.and_eq_true, List.any_eq_true] at this
  obtain ⟨i, _, hi⟩ := this.2
  rw [Bool.and_eq_true] at hi
  obtain ⟨i1, i2⟩ := hi
  have hEA : (jA ws r).testBit i = true := by
    rw [← hA, Nat.testBit_and, Bool.and_eq_true] at i1
    exact i1.2
  obtain ⟨w, q1, q2, q3⟩ := jn_iff.1 (jw_ok hEA)
  obtain ⟨n1, n2, n3, n4⟩ := id hn
  obtain ⟨m1, m2, _⟩ := n4 w (List.mem_of_getElem? q1)
  obtain ⟨_, q5⟩ := pIx_ok (hr w.1) (hr w.2) q2
  rw [q3] at q5
  rcases q5 with q5 | q5
  · rw [q5] at i2
    have i2 : (r w.1 == u || r w.2 == u) = true := i2
    rw [Bool.or_eq_true, beq_iff_eq, beq_iff_eq] at i2
    rcases i2 with h | h
    · exact ⟨w.1, by omega, h⟩
    · exact ⟨w.2, by omega, h⟩
  · rw [q5] at i2
    have i2 : (r w.2 == u || r w.1 == u) = true := i2
    rw [Bool.or_eq_true, beq_iff_eq, beq_iff_eq] at i2
    rcases i2 with h | h
    · exact ⟨w.2, by omega, h⟩
    · exact ⟨w.1, by omega, h⟩

/-- Where no two wires are between the same groups, wires are pairs. -/
theorem cross_pairs {ws : List (Nat × Nat)} {r : Nat → Nat} (hr : ∀ v, r v < 5) (hone : ∀ i k k', jn ws r i k = true → jn ws r i k' = true → k = k') (L : Nat) : crossW ws r 0 L ≤ eN (jA ws r) L := by
  have key : ∀ k, crossK ws r 0 L k = true → ∃ i, i < 10 ∧ jn ws r i k = true ∧ inP L i = true := fun k hk => by
    obtain ⟨_, w, h2, h3, h4, h5⟩ := crossK_iff.1 hk
    obtain ⟨p1, p2⟩ := pIx_ok (hr w.1) (hr w.2) h3
    refine ⟨_, p1, jn_iff.2 ⟨w, h2, h3, rfl⟩, ?_⟩
    unfold inP
    rcases p2 with p2 | p2
    · rw [p2]; show (L.testBit (r w.1) && L.testBit (r w.2)) = true; rw [h4, h5]; rfl
    · rw [p2]; show (L.testBit (r w.2) && L.testBit (r w.1)) = true; rw [h4, h5]; rfl
  have gof : ∀ {i k : Nat}, jn ws r i k = true → (match ws[k]? with | some w => pIx (r w.1) (r w.2) | none => 0) = i := fun {i k} h => by
    obtain ⟨w, h2, _, h4⟩ := jn_iff.1 h
    rw [h2]; exact h4
  unfold crossW
  rw [count_splitQ (g := fun k => match ws[k]? with | some w => pIx (r w.1) (r w.2) | none => 0) (n := 10) (List.range 9) (fun k _ hk => by
    obtain ⟨i, i1, i2, _⟩ := key k hk
    show (match ws[k]? with | some w => pIx (r w.1) (r w.2) | none => 0) < 10
    rw [gof i2]; exact i1)]
  unfold eN
  refine sumQ_le fun i hi => ?_
  by_cases hc : ((jA ws r).testBit i && inP L i) = true
  · rw [if_pos hc]
    refine countP_one _ List.nodup_range fun x y _ _ hx hy => ?_
    rw [Bool.and_eq_true, beq_iff_eq] at hx hy
    obtain ⟨x1, x2⟩ := hx
    obtain ⟨y1, y2⟩ := hy
    obtain ⟨i1, _, j1, _⟩ := key x x1
    obtain ⟨i2, _, j2, _⟩ := key y y1
    have e1 := gof j1
    have e2 := gof j2
    have x2 : (match ws[x]? with | some w => pIx (r w.1) (r w.2) | none => 0) = i := x2
    have y2 : (match ws[y]? with | some w => pIx (r w.1) (r w.2) | none => 0) = i := y2
    rw [x2] at e1
    rw [y2] at e2
    subst e1
    subst e2
    exact hone _ _ _ j1 j2
  · rw [if_neg hc]
    refine Nat.le_of_eq (List.countP_eq_zero.2 fun k hk h => hc ?_)
    rw [Bool.and_eq_true, beq_iff_eq] at h
    obtain ⟨i', i1, j1, q1⟩ := key k h.1
    have e1 := gof j1
    have h2 : (match ws[k]? with | some w => pIx (r w.1) (r w.2) | none => 0) = i := h.2
    rw [h2] at e1
    subst e1
    rw [q1, jA_bit.2 ⟨i1, k, List.mem_range.1 hk, j1⟩]; rfl

/-- A wire alone is a tree of two groups. -/
theorem qtree_one {ws : List (Nat × Nat)} (hl : ws.length ≤ 8) {r : Nat → Nat} {k p q : Nat} {w : Nat × Nat} (hp : p < 5) (hq : q < 5) (hne : p ≠ q) (hk : ws[k]? = some w) (hw : (r w.1 = p ∧ r w.2 = q) ∨ (r w.1 = q ∧ r w.2 = p)) :
    QTree ws r ((1 <<< p) ||| (1 <<< q)) (1 <<< k) := by
  have hkl : k < ws.length := (List.getElem?_eq_some_iff.1 hk).1
  have b1 : ((1 <<< p) ||| (1 <<< q)).testBit p = true := by rw [with_bit, one_bit]; simp
  have b2 : ((1 <<< p) ||| (1 <<< q)).testBit q = true := by rw [with_bit]; simp
  have hb : (1 <<< k).testBit k = true := by rw [one_bit]; simp
  have hg := qn_get (r := r) hk
  refine ⟨by rw [Nat.one_shiftLeft]; exact Nat.pow_lt_pow_right (by decide) hkl, fun j hj => ?_, ?_, fun u v hu hv => ?_⟩
  · rw [one_bit, decide_eq_true_eq] at hj
    subst hj
    rw [crossK_iff]
    rcases hw with ⟨h1, h2⟩ | ⟨h1, h2⟩
    · exact ⟨Nat.zero_testBit _, w, hk, by rw [h1, h2]; exact hne, by rw [h1]; exact b1, by rw [h2]; exact b2⟩
    · exact ⟨Nat.zero_testBit _, w, hk, by rw [h1, h2]; exact fun h => hne h.symm, by rw [h1]; exact b2, by rw [h2]; exact b1⟩
  · rw [pop_one (by omega), pop_or, pop_one (by omega), pop_one (by omega)]
    intro j h1 h2
    rw [one_bit, decide_eq_true_eq] at h1 h2
    omega
  · have c1 : Conn (qn r ws) (1 <<< k) p q := by
      rcases hw with ⟨h1, h2⟩ | ⟨h1, h2⟩
      · have := Conn.fwd (u := p) .refl hg hb h1
        rw [h2] at this; exact this
      · have := Conn.bwd (u := p) .refl hg hb h2
        rw [h1] at this; exact this
    rw [with_bit, one_bit, Bool.or_eq_true, decide_eq_true_eq, decide_eq_true_eq] at hu hv
    rcases hu with rfl | rfl <;> rcases hv with rfl | rfl
    · exact .refl
    · exact c1
    · exact c1.symm
    · exact .refl

/-- With many wires between groups, there are two trees on some of them. -/
theorem dense_trees {nodes : Nat} {ws : List (Nat × Nat)} (hn : NetN nodes ws) {r : Nat → Nat} (hr : ∀ v, r v < 5) (hs : ¬ Sparse ws r 0) :
    ∃ L T1 T2, L < 2 ^ 5 ∧ 2 ≤ pop L ∧ (∀ u, L.testBit u = true → ∃ v, v < 5 ∧ r v = u) ∧ QTree ws r L T1 ∧ QTree ws r L T2 ∧ ∀ j, T1.testBit j = true → T2.testBit j = true → False := by
  have hl' : ws.length ≤ 8 := hn.2.2.1
  by_cases hone : ∀ i k k', jn ws r i k = true → jn ws r i k' = true → k = k'
  · obtain ⟨L0, l1, l2, l3⟩ : ∃ L, L < 2 ^ 5 ∧ 2 ≤ pop L ∧ 2 * pop L < crossW ws r 0 L + 3 := by
      apply Classical.byContradiction
      intro hno
      exact hs fun L h1 h2 => Nat.le_of_not_lt fun h3 => hno ⟨L, h1, h2, h3⟩
    have hle := cross_pairs hr hone L0
    have hall := List.all_eq_true.1 dense_all (jA ws r) (List.mem_range.2 jA_lt)
    rw [Bool.or_eq_true] at hall
    rcases hall with hany | hno
    · rw [List.any_eq_true] at hany
      obtain ⟨⟨L, E1, E2⟩, t1, t2⟩ := hany
      rw [Bool.and_eq_true, beq_iff_eq, beq_iff_eq] at t2
      have hok := List.all_eq_true.1 trees_all _ t1
      rw [Bool.and_eq_true, Bool.and_eq_true, Bool.and_eq_true, Bool.and_eq_true, decide_eq_true_eq, decide_eq_true_eq, beq_iff_eq] at hok
      obtain ⟨o1, o2, o3, o4, o5⟩ := hok
      have o1 : L < 32 := o1
      have o3 : E1 &&& E2 = 0 := o3
      refine ⟨L, _, _, o1, o2, tree_met hn hr o1 o4 t2.1, qtree_of hl' hr o1 o4 t2.1, qtree_of hl' hr o1 o5 t2.2, fun j h1 h2 => ?_⟩
      rw [bigOr_bit] at h1 h2
      obtain ⟨i, _, i2, i3⟩ := h1
      obtain ⟨i', _, i2', i3'⟩ := h2
      rw [one_bit, decide_eq_true_eq] at i3 i3'
      have a1 : (jA ws r).testBit i = true := by
        have := i2
        rw [← t2.1, Nat.testBit_and, Bool.and_eq_true] at this
        exact this.2
      have a2 : (jA ws r).testBit i' = true := by
        have := i2'
        rw [← t2.2, Nat.testBit_and, Bool.and_eq_true] at this
        exact this.2
      obtain ⟨w, q1, _, q3⟩ := jn_iff.1 (jw_ok a1)
      obtain ⟨w', q1', _, q3'⟩ := jn_iff.1 (jw_ok a2)
      rw [← i3] at q1
      rw [← i3', q1] at q1'
      cases q1'
      rw [q3] at q3'
      subst q3'
      have : (E1 &&& E2).testBit i = true := by rw [Nat.testBit_and, i2, i2']; rfl
      rw [o3, Nat.zero_testBit] at this; cases this
    · have := List.all_eq_true.1 hno L0 (List.mem_range.2 l1)
      rw [Bool.or_eq_true, decide_eq_true_eq, decide_eq_true_eq] at this
      omega
  · -- two wires between the same groups
    have : ∃ i k k', jn ws r i k = true ∧ jn ws r i k' = true ∧ k ≠ k' := by
      apply Classical.byContradiction
      intro hno
      exact hone fun i k k' h1 h2 => Classical.byContradiction fun h3 => hno ⟨i, k, k', h1, h2, h3⟩
    obtain ⟨i, k, k', j1, j2, hne⟩ := this
    obtain ⟨w, q1, q2, q3⟩ := jn_iff.1 j1
    obtain ⟨w', p1, p2, p3⟩ := jn_iff.1 j2
    obtain ⟨n1, n2, n3, n4⟩ := id hn
    obtain ⟨m1, m2, _⟩ := n4 w (List.mem_of_getElem? q1)
    have hsame : (r w'.1 = r w.1 ∧ r w'.2 = r w.2) ∨ (r w'.1 = r w.2 ∧ r w'.2 = r w.1) := by
      obtain ⟨_, a⟩ := pIx_ok (hr w.1) (hr w.2) q2
      obtain ⟨_, b⟩ := pIx_ok (hr w'.1) (hr w'.2) p2
      rw [q3] at a
      rw [p3] at b
      rcases a with a | a <;> rcases b with b | b <;> rw [a, Option.some.injEq, Prod.mk.injEq] at b <;> omega
    refine ⟨(1 <<< r w.1) ||| (1 <<< r w.2), 1 <<< k, 1 <<< k', ?_, ?_, fun u hu => ?_, qtree_one hl' (hr _) (hr _) q2 q1 (.inl ⟨rfl, rfl⟩), qtree_one hl' (hr _) (hr _) q2 p1 hsame, fun j h1 h2 => ?_⟩
    · exact Nat.or_lt_two_pow (by rw [Nat.one_shiftLeft]; exact Nat.pow_lt_pow_right (by decide) (hr _)) (by rw [Nat.one_shiftLeft]; exact Nat.pow_lt_pow_right (by decide) (hr _))
    · exact pop_pair (hr _) (hr _) q2 (by rw [with_bit, one_bit]; simp) (by rw [with_bit]; simp)
    · rw [with_bit, one_bit, Bool.or_eq_true, decide_eq_true_eq, decide_eq_true_eq] at hu
      rcases hu with rfl | rfl
      · exact ⟨w.1, by omega, rfl⟩
      · exact ⟨w.2, by omega, rfl⟩
    · rw [one_bit, decide_eq_true_eq] at h1 h2
      omega

end Go.Proofs.YtbmmcldbllhhhaaDoor

/- Who wins a net, if the one who cuts is to move: two trees on some of the nodes, and nothing else. No program text. -/
set_option maxRecDepth 20000
namespace Go.Proofs.YtbmmcldbllhhhaaDoor
open Go Go.Ip G

/-- Wires within a set of nodes, one fewer than the nodes, by which one comes from each to each. -/
def Span (ws : List (Nat × Nat)) (X T : Nat) : Prop :=
  T < 2 ^ ws.length ∧ (∀ k w, ws[k]? = some w → T.testBit k = true → X.testBit w.1 = true ∧ X.testBit w.2 = true) ∧ pop T + 1 = pop X ∧ ∀ u v, X.testBit u = true → X.testBit v = true → Conn ws T u v
/-- Two of them without a common wire. -/
def PairX (ws : List (Nat × Nat)) (X T1 T2 : Nat) : Prop := Span ws X T1 ∧ Span ws X T2 ∧ ∀ j, T1.testBit j = true → T2.testBit j = true → False
/-- The nodes of a group. -/
def grp (r : Nat → Nat) (u : Nat) : Nat := (List.range 5).foldl (fun x v => if (r v == u) = true then x ||| (1 <<< v) else x) 0
theorem grp_bit {r : Nat → Nat} {u v : Nat} : (grp r u).testBit v = true ↔ v < 5 ∧ r v = u := by
  unfold grp
  rw [fold_bit (P := fun v => r v == u), Nat.zero_testBit, List.mem_range, beq_iff_eq]
  exact ⟨fun h => h.elim (fun h => by cases h) id, .inr⟩
theorem grp_lt {r : Nat → Nat} {u : Nat} : grp r u < 2 ^ 5 := by
  apply Nat.lt_of_not_le
  intro h
  obtain ⟨i, hi, hb⟩ := Nat.exists_ge_and_testBit_of_ge_two_pow h
  exact absurd (grp_bit.1 hb).1 (by omega)

/-- Groups on each of which there are two trees without a common wire. -/
def Grouped (ws : List (Nat × Nat)) (r : Nat → Nat) : Prop := (∀ v, r v < 5) ∧ ∀ u, (∃ v, v < 5 ∧ r v = u) → ∃ T1 T2, PairX ws (grp r u) T1 T2

/-- From group to group, and within each. -/
theorem conn_lift {nodes : Nat} {ws : List (Nat × Nat)} (hn : NetN nodes ws) {r : Nat → Nat} {L T' T : Nat} (hQ : QTree ws r L T') (hT' : ∀ j, T'.testBit j = true → T.testBit j = true)
    (hin : ∀ u v v', L.testBit u = true → v < 5 → v' < 5 → r v = u → r v' = u → Conn ws T v v') {v : Nat} (hv : v < 5) (hvL : L.testBit (r v) = true) :
    ∀ {q : Nat}, Conn (qn r ws) T' (r v) q → L.testBit q = true ∧ ∀ v', v' < 5 → r v' = q → Conn ws T v v' := by
  intro q hc
  have n5 : ∀ {k : Nat} {w : Nat × Nat}, ws[k]? = some w → w.1 < 5 ∧ w.2 < 5 := fun {k w} hk => by
    obtain ⟨n1, n2, n3, n4⟩ := id hn
    obtain ⟨m1, m2, _⟩ := n4 w (List.mem_of_getElem? hk)
    omega
  induction hc with
  | refl => exact ⟨hvL, fun v' h1 h2 => hin (r v) v v' hvL hv h1 rfl h2⟩
  | fwd _ hw hs e ih =>
    obtain ⟨w, hk, rfl⟩ := qn_of hw
    obtain ⟨_, w', q2, _, _, q5⟩ := crossK_iff.1 (hQ.2.1 _ hs)
    rw [hk] at q2; cases q2
    obtain ⟨m1, m2⟩ := n5 hk
    refine ⟨q5, fun v' h1 h2 => ?_⟩
    have c1 := ih.2 w.1 m1 e
    exact (Conn.fwd c1 hk (hT' _ hs) rfl).trans (hin _ w.2 v' q5 m2 h1 rfl h2)
  | bwd _ hw hs e ih =>
    obtain ⟨w, hk, rfl⟩ := qn_of hw
    obtain ⟨_, w', q2, _, q4, _⟩ := crossK_iff.1 (hQ.2.1 _ hs)
    rw [hk] at q2; cases q2
    obtain ⟨m1, m2⟩ := n5 hk
    refine ⟨q4, fun v' h1 h2 => ?_⟩
    have c1 := ih.2 w.2 m2 e
    exact (Conn.bwd c1 hk (hT' _ hs) rfl).trans (hin _ w.1 v' q4 m1 h1 rfl h2)

/-- Trees on groups, and one between them: a tree on all. -/
theorem span_merge {nodes : Nat} {ws : List (Nat × Nat)} (hn : NetN nodes ws) {r : Nat → Nat} {L T' : Nat} (hL : L < 2 ^ 5) (hQ : QTree ws r L T') {F : Nat → Nat} (hF : ∀ u, L.testBit u = true → Span ws (grp r u) (F u)) :
    Span ws (bigOr (grp r) L 5) (bigOr F L 5 ||| T') := by
  have hL5 : ∀ {u}, L.testBit u = true → u < 5 := fun h => bit_small hL h
  have hX : ∀ {v : Nat}, (bigOr (grp r) L 5).testBit v = true ↔ v < 5 ∧ L.testBit (r v) = true := fun {v} => by
    rw [bigOr_bit]
    constructor
    · rintro ⟨u, u1, u2, u3⟩
      obtain ⟨g1, g2⟩ := grp_bit.1 u3
      exact ⟨g1, by rw [g2]; exact u2⟩
    · rintro ⟨h1, h2⟩
      exact ⟨r v, hL5 h2, h2, grp_bit.2 ⟨h1, rfl⟩⟩
  have hFin : ∀ {u k : Nat}, L.testBit u = true → (F u).testBit k = true → ∃ w, ws[k]? = some w ∧ r w.1 = u ∧ r w.2 = u ∧ w.1 < 5 ∧ w.2 < 5 := fun {u k} hu hk => by
    have hkl : k < ws.length := bit_small (hF u hu).1 hk
    refine ⟨ws[k], List.getElem?_eq_some_iff.2 ⟨hkl, rfl⟩, ?_⟩
    obtain ⟨a, b⟩ := (hF u hu).2.1 k _ (List.getElem?_eq_some_iff.2 ⟨hkl, rfl⟩) hk
    obtain ⟨a1, a2⟩ := grp_bit.1 a
    obtain ⟨b1, b2⟩ := grp_bit.1 b
    exact ⟨a2, b2, a1, b1⟩
  refine ⟨Nat.or_lt_two_pow (bigOr_lt fun u _ hu => (hF u hu).1) hQ.1, fun k w hk hT => ?_, ?_, fun v v' hv hv' => ?_⟩
  · rw [Nat.testBit_or, Bool.or_eq_true] at hT
    rcases hT with hT | hT
    · obtain ⟨u, u1, u2, u3⟩ := bigOr_bit.1 hT
      obtain ⟨w', q1, q2, q3, q4, q5⟩ := hFin u2 u3
      rw [hk] at q1; cases q1
      exact ⟨hX.2 ⟨q4, by rw [q2]; exact u2⟩, hX.2 ⟨q5, by rw [q3]; exact u2⟩⟩
    · obtain ⟨_, w', q2, _, q4, q5⟩ := crossK_iff.1 (hQ.2.1 _ hT)
      rw [hk] at q2; cases q2
      obtain ⟨n1, n2, n3, n4⟩ := id hn
      obtain ⟨m1, m2, _⟩ := n4 w (List.mem_of_getElem? hk)
      exact ⟨hX.2 ⟨by omega, q4⟩, hX.2 ⟨by omega, q5⟩⟩
  · rw [pop_or, bigOr_pop, bigOr_pop]
    · have e1 : sumQ (fun u => if L.testBit u = true then pop (grp r u) else 0) 5 = sumQ (fun u => (if L.testBit u = true then pop (F u) else 0) + (if L.testBit u = true then 1 else 0)) 5 := sumQ_congr fun u _ => by
        split
        · rename_i h; exact (hF u h).2.2.1.symm
        · rfl
      rw [e1, sumQ_add, pop_sum5 hL, ← hQ.2.2.1]; omega
    · intro u v _ _ _ _ hne j h1 h2
      exact hne ((grp_bit.1 h1).2.symm.trans (grp_bit.1 h2).2)
    · intro u v _ _ hu hv hne j h1 h2
      obtain ⟨w, q1, q2, _⟩ := hFin hu h1
      obtain ⟨w', p1, p2, _⟩ := hFin hv h2
      rw [q1] at p1; cases p1
      exact hne (q2.symm.trans p2)
    · intro j h1 h2
      obtain ⟨u, u1, u2, u3⟩ := bigOr_bit.1 h1
      obtain ⟨w, q1, q2, q3, _⟩ := hFin u2 u3
      obtain ⟨_, w', p2, p3, _⟩ := crossK_iff.1 (hQ.2.1 _ h2)
      rw [q1] at p2; cases p2
      exact p3 (q2.trans q3.symm)
  · obtain ⟨v1, v2⟩ := hX.1 hv
    obtain ⟨w1, w2⟩ := hX.1 hv'
    have hc := hQ.2.2.2 _ _ v2 w2
    refine (conn_lift hn hQ (T := bigOr F L 5 ||| T') or_right (fun u x y hu hx hy hxu hyu => ?_) v1 v2 hc).2 v' w1 rfl
    exact ((hF u hu).2.2.2 x y (grp_bit.2 ⟨hx, hxu⟩) (grp_bit.2 ⟨hy, hyu⟩)).mono fun j hj => or_left j (bigOr_bit.2 ⟨u, hL5 hu, hu, hj⟩)

/-- How many groups there are. -/
def grpN (r : Nat → Nat) : Nat := (List.range 5).countP fun u => (List.range 5).any fun v => r v == u
theorem grpN_iff {r : Nat → Nat} {u : Nat} : ((List.range 5).any fun v => r v == u) = true ↔ ∃ v, v < 5 ∧ r v = u := by
  rw [List.any_eq_true]
  constructor
  · rintro ⟨v, h1, h2⟩; exact ⟨v, List.mem_range.1 h1, beq_iff_eq.1 h2⟩
  · rintro ⟨v, h1, h2⟩; exact ⟨v, List.mem_range.2 h1, beq_iff_eq.2 h2⟩

/-- Groups put together, until there are no many wires between them. -/
theorem grouped_sparse {nodes : Nat} {ws : List (Nat × Nat)} (hn : NetN nodes ws) : ∀ (m : Nat) (r : Nat → Nat), grpN r ≤ m → Grouped ws r → ∃ r', Grouped ws r' ∧ Sparse ws r' 0 := by
  intro m
  induction m with
  | zero =>
    intro r hm hG
    have : 0 < grpN r := List.countP_pos_iff.2 ⟨r 0, List.mem_range.2 (hG.1 0), grpN_iff.2 ⟨0, by omega, rfl⟩⟩
    omega
  | succ m ih =>
    intro r hm hG
    by_cases hs : Sparse ws r 0
    · exact ⟨r, hG, hs⟩
    · obtain ⟨L, T1, T2, h1, h2, h3, h4, h5, h6⟩ := dense_trees hn hG.1 hs
      have hL5 : ∀ {u}, L.testBit u = true → u < 5 := fun h => bit_small h1 h
      -- two of the groups
      obtain ⟨p, q, hp, hq, hpq⟩ : ∃ p q, L.testBit p = true ∧ L.testBit q = true ∧ p ≠ q := by
        apply Classical.byContradiction
        intro hno
        have : pop L ≤ 1 := countP_one _ List.nodup_range fun x y _ _ hx hy => Classical.byContradiction fun hne => hno ⟨x, y, hx, hy, hne⟩
        omega
      have hTs : ∀ u, ∃ T1 T2, L.testBit u = true → PairX ws (grp r u) T1 T2 := fun u => by
        by_cases hu : L.testBit u = true
        · obtain ⟨a, b, c⟩ := hG.2 u (h3 u hu)
          exact ⟨a, b, fun _ => c⟩
        · exact ⟨0, 0, fun h => (hu h).elim⟩
      obtain ⟨F1, hF1⟩ := Classical.axiomOfChoice hTs
      obtain ⟨F2, hF2⟩ := Classical.axiomOfChoice hF1
      have S1 := span_merge hn h1 h4 (F := F1) fun u hu => (hF2 u hu).1
      have S2 := span_merge hn h1 h5 (F := F2) fun u hu => (hF2 u hu).2.1
      have hin : ∀ {F : Nat → Nat} {u k : Nat}, Span ws (grp r u) (F u) → (F u).testBit k = true → ∃ w, ws[k]? = some w ∧ r w.1 = u ∧ r w.2 = u := fun {F u k} hS hk => by
        have hkl : k < ws.length := bit_small hS.1 hk
        refine ⟨ws[k], List.getElem?_eq_some_iff.2 ⟨hkl, rfl⟩, ?_⟩
        obtain ⟨a, b⟩ := hS.2.1 k _ (List.getElem?_eq_some_iff.2 ⟨hkl, rfl⟩) hk
        exact ⟨(grp_bit.1 a).2, (grp_bit.1 b).2⟩
      have hdis : ∀ j, (bigOr F1 L 5 ||| T1).testBit j = true → (bigOr F2 L 5 ||| T2).testBit j = true → False := fun j a b => by
        rw [Nat.testBit_or, Bool.or_eq_true] at a b
        rcases a with a | a <;> rcases b with b | b
        · obtain ⟨u, _, u2, u3⟩ := bigOr_bit.1 a
          obtain ⟨v, _, v2, v3⟩ := bigOr_bit.1 b
          obtain ⟨w, w1, w2, _⟩ := hin (hF2 u u2).1 u3
          obtain ⟨x, x1, x2, _⟩ := hin (hF2 v v2).2.1 v3
          rw [w1] at x1; cases x1
          rw [w2] at x2; subst x2
          exact (hF2 u u2).2.2 j u3 v3
        · obtain ⟨u, _, u2, u3⟩ := bigOr_bit.1 a
          obtain ⟨w, w1, w2, w3⟩ := hin (hF2 u u2).1 u3
          obtain ⟨_, x, x2, x3, _⟩ := crossK_iff.1 (h5.2.1 _ b)
          rw [w1] at x2; cases x2
          exact x3 (w2.trans w3.symm)
        · obtain ⟨u, _, u2, u3⟩ := bigOr_bit.1 b
          obtain ⟨w, w1, w2, w3⟩ := hin (hF2 u u2).2.1 u3
          obtain ⟨_, x, x2, x3, _⟩ := crossK_iff.1 (h4.2.1 _ a)
          rw [w1] at x2; cases x2
          exact x3 (w2.trans w3.symm)
        · exact h6 j a b
      have hgp : grp (merge r L p) p = bigOr (grp r) L 5 := by
        apply Nat.eq_of_testBit_eq
        intro v
        rw [Bool.eq_iff_iff, grp_bit, bigOr_bit]
        unfold merge
        constructor
        · rintro ⟨a, b⟩
          split at b
          · rename_i h; exact ⟨r v, hL5 h, h, grp_bit.2 ⟨a, rfl⟩⟩
          · rename_i h; rw [b] at h; exact (h hp).elim
        · rintro ⟨u, a, b, c⟩
          obtain ⟨c1, c2⟩ := grp_bit.1 c
          exact ⟨c1, by rw [c2, if_pos b]⟩
      refine ih (merge r L p) ?_ ⟨fun v => ?_, fun u hu => ?_⟩
      · have : grpN (merge r L p) + 1 ≤ grpN r := by
          refine countP_lt (c := q) (fun u _ hu => ?_) (List.mem_range.2 (hL5 hq)) (grpN_iff.2 (h3 q hq)) ?_
          · obtain ⟨v, v1, v2⟩ := grpN_iff.1 hu
            unfold merge at v2
            split at v2
            · subst v2; exact grpN_iff.2 (h3 p hp)
            · exact grpN_iff.2 ⟨v, v1, v2⟩
          · cases hx : (List.range 5).any fun v => merge r L p v == q with
            | false => rfl
            | true =>
              obtain ⟨v, v1, v2⟩ := grpN_iff.1 hx
              unfold merge at v2
              split at v2
              · exact (hpq v2).elim
              · rename_i h; rw [v2] at h; exact (h hq).elim
        omega
      · unfold merge; split
        · exact hL5 hp
        · exact hG.1 v
      · by_cases hup : u = p
        · subst hup
          rw [hgp]
          exact ⟨_, _, S1, S2, hdis⟩
        · obtain ⟨v, v1, v2⟩ := hu
          have hLv : L.testBit (r v) ≠ true := fun h => by unfold merge at v2; rw [if_pos h] at v2; exact hup v2.symm
          have hrv : r v = u := by unfold merge at v2; rw [if_neg hLv] at v2; exact v2
          have hgu : grp (merge r L p) u = grp r u := by
            apply Nat.eq_of_testBit_eq
            intro x
            rw [Bool.eq_iff_iff, grp_bit, grp_bit]
            refine and_congr_right fun _ => ?_
            unfold merge
            constructor
            · intro a
              split at a
              · exact (hup a.symm).elim
              · exact a
            · intro a
              rw [if_neg]
              · exact a
              · rw [a, ← hrv]; exact hLv
          rw [hgu]
          exact hG.2 u ⟨v, v1, hrv⟩

/-- Two trees on some nodes, or the one who cuts first wins. -/
theorem pair_or_cut {nodes : Nat} {ws : List (Nat × Nat)} (hn : NetN nodes ws) : (∃ X T1 T2, X < 2 ^ 5 ∧ X.testBit 0 = true ∧ X.testBit 1 = true ∧ PairX ws X T1 T2) ∨ gWin ws.length (linkW ws) (cutW ws) 0 0 2 = 2 := by
  have hG0 : Grouped ws (fun v => if v < 5 then v else 0) := by
    refine ⟨fun v => by show (if v < 5 then v else 0) < 5; split <;> omega, fun u hu => ⟨0, 0, ?_⟩⟩
    obtain ⟨v, v1, v2⟩ := hu
    have v2 : (if v < 5 then v else 0) = u := v2
    rw [if_pos v1] at v2
    subst v2
    have hb : ∀ x, (grp (fun v => if v < 5 then v else 0) v).testBit x = true ↔ x = v := fun x => by
      rw [grp_bit]
      constructor
      · rintro ⟨a, b⟩
        have b : (if x < 5 then x else 0) = v := b
        rw [if_pos a] at b; exact b
      · intro a; subst a; exact ⟨v1, if_pos v1⟩
    have hg : grp (fun v => if v < 5 then v else 0) v = 1 <<< v := by
      apply Nat.eq_of_testBit_eq
      intro x
      rw [Bool.eq_iff_iff, hb, one_bit, decide_eq_true_eq]
    have S : Span ws (grp (fun v => if v < 5 then v else 0) v) 0 := by
      refine ⟨Nat.two_pow_pos _, fun k w _ h => (by rw [Nat.zero_testBit] at h; cases h), by rw [hg, pop_one (by omega)]; rfl, fun x y hx hy => ?_⟩
      rw [hb] at hx hy
      subst hx; subst hy; exact .refl
    exact ⟨S, S, fun j h => by rw [Nat.zero_testBit] at h; cases h⟩
  obtain ⟨r, hG, hs⟩ := grouped_sparse hn _ _ (Nat.le_refl _) hG0
  by_cases h01 : r 0 = r 1
  · obtain ⟨T1, T2, hP⟩ := hG.2 (r 0) ⟨0, by omega, rfl⟩
    exact .inl ⟨grp r (r 0), T1, T2, grp_lt, grp_bit.2 ⟨by omega, rfl⟩, grp_bit.2 ⟨by omega, h01.symm⟩, hP⟩
  · refine .inr (sparse_second hn _ 0 0 r (Nat.le_refl _) ⟨Nat.two_pow_pos _, Nat.two_pow_pos _, fun j h => by rw [Nat.zero_testBit] at h; cases h⟩ ⟨hG.1, fun k w _ h => (by rw [Nat.zero_testBit] at h; cases h), h01, hs⟩)

end Go.Proofs.YtbmmcldbllhhhaaDoor

/- Two trees on some of the nodes: just then the one who joins wins, the other one being to move. No program text. -/
set_option maxRecDepth 20000
namespace Go.Proofs.YtbmmcldbllhhhaaDoor
open Go Go.Ip G

theorem Span.tree {nodes : Nat} {ws : List (Nat × Nat)} (hn : NetN nodes ws) {X T : Nat} (hX : X < 2 ^ 5) (h0 : X.testBit 0 = true) (h : Span ws X T) : TreeOn ws T X := by
  refine ⟨h.1, hX, h.2.2.1, fun v => ⟨fun hv => h.2.2.2 0 v h0 hv, fun hc => ?_⟩⟩
  have hcl : ClosedW ws T X := fun k w hk ht => by
    obtain ⟨a, b⟩ := h.2.1 k w hk ht
    rw [a, b]
  rw [← closed_conn hcl hc]; exact h0
/-- A tree is within its nodes. -/
theorem TreeOn.span {nodes : Nat} {ws : List (Nat × Nat)} (hn : NetN nodes ws) {X T : Nat} (h : TreeOn ws T X) : Span ws X T := by
  obtain ⟨t1, t2, t3, t4⟩ := h
  refine ⟨t1, fun k w hk ht => ?_, t3, fun u v hu hv => ((t4 u).1 hu).symm.trans ((t4 v).1 hv)⟩
  -- all of its wires are needed, so each is within
  obtain ⟨Y, y1, y2, y3, y4⟩ := reach_size hn (S := T) 32 1 (by omega) (by decide) (by decide) (fun v hv => by
    have : v = 0 := by
      rw [show (1 : Nat) = 1 <<< 0 from rfl, one_bit] at hv; simpa using hv
    subst this; exact .refl) (by show 1 ≤ _; omega)
  have hYX : Y = X := by
    apply Nat.eq_of_testBit_eq
    intro j
    rw [Bool.eq_iff_iff, y3, t4]
  subst hYX
  have hin : inW ws T Y k = true := by
    apply Classical.byContradiction
    intro hno
    have hk9 : k < 9 := by have := (List.getElem?_eq_some_iff.1 hk).1; have := hn.2.2.1; omega
    have : innerW ws T Y + 1 ≤ pop T := countP_lt (c := k) (fun j _ hj => by unfold inW at hj; rw [Bool.and_eq_true] at hj; exact hj.1) (List.mem_range.2 hk9) ht (by simpa using hno)
    omega
  unfold inW at hin
  rw [ht, hk] at hin
  simpa using hin
/-- With two trees on nodes that have both ends, who joins wins. -/
theorem treepair_wins {nodes : Nat} {ws : List (Nat × Nat)} (hn : NetN nodes ws) {X T1 T2 : Nat} (hX : X < 2 ^ 5) (h0 : X.testBit 0 = true) (h1 : X.testBit 1 = true) (h : PairX ws X T1 T2) : gWin ws.length (linkW ws) (cutW ws) 0 0 2 = 1 :=
  two_trees_win hn _ 0 0 X T1 T2 (Nat.le_refl _) ⟨Nat.two_pow_pos _, Nat.two_pow_pos _, fun j h => by rw [Nat.zero_testBit] at h; cases h⟩
    ⟨h.1.tree hn hX h0, h.2.1.tree hn hX h0, h1, fun j _ => Nat.zero_testBit _, fun j _ => Nat.zero_testBit _, fun j a b => (h.2.2 j a b).elim⟩
/-- Just then. -/
theorem lehman {nodes : Nat} {ws : List (Nat × Nat)} (hn : NetN nodes ws) : gWin ws.length (linkW ws) (cutW ws) 0 0 2 = 1 ↔ ∃ X T1 T2, X < 2 ^ 5 ∧ X.testBit 0 = true ∧ X.testBit 1 = true ∧ PairX ws X T1 T2 := by
  constructor
  · intro h
    rcases pair_or_cut hn with hP | hP
    · exact hP
    · rw [hP] at h; cases h
  · rintro ⟨X, T1, T2, h1, h2, h3, h4⟩
    exact treepair_wins hn h1 h2 h3 h4

end Go.Proofs.YtbmmcldbllhhhaaDoor

/- Trees of nets as lists of sets: which sets are trees, pairs of them, how many go through a wire, and what a further wire brings. No program text. -/
set_option maxRecDepth 20000
namespace Go.Proofs.YtbmmcldbllhhhaaDoor
open Go Go.Ip

/-! ### trees -/
def withinW (ws : List (Nat × Nat)) (S X : Nat) : Bool := (List.range ws.length).all fun k => !S.testBit k || (match ws[k]? with | some w => X.testBit w.1 && X.testBit w.2 | none => true)
def treeW (ws : List (Nat × Nat)) (S X : Nat) : Bool := withinW ws S X && (decide (pop S + 1 = pop X) && decide (reachW ws S 0 = X))
theorem within_iff {ws : List (Nat × Nat)} {S X : Nat} : withinW ws S X = true ↔ ∀ k w, ws[k]? = some w → S.testBit k = true → X.testBit w.1 = true ∧ X.testBit w.2 = true := by
  unfold withinW
  rw [List.all_eq_true]
  constructor
  · intro h k w hk hs
    have := h k (List.mem_range.2 (List.getElem?_eq_some_iff.1 hk).1)
    rw [hs, hk] at this
    simpa using this
  · intro h k hk
    have hk := List.mem_range.1 hk
    cases hs : S.testBit k with
    | false => rfl
    | true =>
      have := h k _ (List.getElem?_eq_getElem hk) hs
      rw [List.getElem?_eq_getElem hk]
      simp [this.1, this.2]

section
variable {nodes : Nat} {ws : List (Nat × Nat)} (hn : NetN nodes ws)
include hn
theorem tree_iff {S X : Nat} (hS : S < 2 ^ ws.length) (hX : X < 2 ^ 5) : treeW ws S X = true ↔ TreeOn ws S X := by
  unfold treeW
  rw [Bool.and_eq_true, Bool.and_eq_true, within_iff, decide_eq_true_iff, decide_eq_true_iff]
  have hr := fun j => reach_bit hn (set := S) (u := 0) (by have := hn.1; omega) j
  constructor
  · rintro ⟨_, h2, h3⟩
    refine ⟨hS, hX, h2, fun v => ?_⟩
    rw [← h3]; exact hr v
  · intro h
    refine ⟨(h.span hn).2.1, h.2.2.1, ?_⟩
    apply Nat.eq_of_testBit_eq
    intro j
    rw [Bool.eq_iff_iff, hr, h.2.2.2]
theorem tree_span {S X : Nat} (hS : S < 2 ^ ws.length) (hX : X < 2 ^ 5) (h0 : X.testBit 0 = true) : treeW ws S X = true ↔ Span ws X S := by
  rw [tree_iff hn hS hX]
  exact ⟨fun h => h.span hn, fun h => h.tree hn hX h0⟩
theorem full_bit {v : Nat} : (2 ^ nodes - 1).testBit v = decide (v < nodes) := by rw [Nat.testBit_two_pow_sub_one]
theorem full_lt : 2 ^ nodes - 1 < 2 ^ 5 := by
  have := Nat.pow_le_pow_right (show 0 < 2 by decide) hn.2.1
  have := Nat.two_pow_pos nodes
  omega
theorem pop_full : pop (2 ^ nodes - 1) = nodes := by
  obtain ⟨h1, h2, _⟩ := hn
  have : nodes = 2 ∨ nodes = 3 ∨ nodes = 4 ∨ nodes = 5 := by omega
  rcases this with rfl | rfl | rfl | rfl <;> rfl
theorem tree_pop {S : Nat} (h : treeW ws S (2 ^ nodes - 1) = true) : pop S + 1 = nodes := by
  unfold treeW at h
  rw [Bool.and_eq_true, Bool.and_eq_true, decide_eq_true_iff, pop_full hn] at h
  exact h.2.1
theorem tree_link {S X : Nat} (hS : S < 2 ^ ws.length) (hX : X < 2 ^ 5) (h1 : X.testBit 1 = true) (h : treeW ws S X = true) : linkW ws S = true :=
  (link_iff hn).2 ((((tree_iff hn hS hX).1 h).2.2.2 1).1 h1)
theorem wire9 {k : Nat} (hk : k < ws.length) : k < 9 := by have := hn.2.2.1; omega
/-- With a wire more or less a tree is none. -/
theorem tree_flip {S X k : Nat} (hS : S < 2 ^ ws.length) (hk : k < ws.length) (h : treeW ws S X = true) : treeW ws (S ^^^ (1 <<< k)) X = false := by
  have hS9 : S < 2 ^ 9 := Nat.lt_of_lt_of_le hS (Nat.pow_le_pow_right (by decide) (by have := hn.2.2.1; omega))
  have hk9 := wire9 hn hk
  have hp : pop S + 1 = pop X := by unfold treeW at h; rw [Bool.and_eq_true, Bool.and_eq_true, decide_eq_true_iff] at h; exact h.2.1
  cases e : treeW ws (S ^^^ (1 <<< k)) X with
  | false => rfl
  | true =>
    have hp2 : pop (S ^^^ (1 <<< k)) + 1 = pop X := by unfold treeW at e; rw [Bool.and_eq_true, Bool.and_eq_true, decide_eq_true_iff] at e; exact e.2.1
    cases hb : S.testBit k with
    | true =>
      have hx : S ^^^ (1 <<< k) = without S k := by
        apply Nat.eq_of_testBit_eq; intro j
        rw [Nat.testBit_xor, one_bit, without_bit]
        by_cases hj : j = k
        · subst hj; simp [hb]
        · simp [hj]
      rw [hx] at hp2
      have := pop_less hS9 hb
      omega
    | false =>
      have hx : S ^^^ (1 <<< k) = S ||| (1 <<< k) := by
        apply Nat.eq_of_testBit_eq; intro j
        rw [Nat.testBit_xor, one_bit, with_bit]
        by_cases hj : j = k
        · subst hj; simp [hb]
        · simp [hj]
      rw [hx] at hp2
      have := pop_add hS9 hk9 hb
      omega
end

/-! ### pairs -/
/-- The least pair, its first tree less than the second one. -/
def pairBW (ws : List (Nat × Nat)) (X a b : Nat) : Bool := decide (a &&& b = 0) && treeW ws b X
def pairA (ws : List (Nat × Nat)) (X a : Nat) : Option (Nat × Nat) :=
  if treeW ws a X = true then ((List.range' (a + 1) (2 ^ ws.length - (a + 1))).find? (pairBW ws X a)).map fun b => (a, b) else none
def pairW (ws : List (Nat × Nat)) (X : Nat) : Option (Nat × Nat) := (List.range (2 ^ ws.length)).findSome? (pairA ws X)
theorem andZ_iff {a b : Nat} : a &&& b = 0 ↔ ∀ j, a.testBit j = true → b.testBit j = true → False := by
  constructor
  · intro h j ha hb
    have := congrArg (fun x => x.testBit j) h
    simp only [Nat.testBit_and, Nat.zero_testBit, ha, hb] at this
    cases this
  · intro h
    apply Nat.eq_of_testBit_eq
    intro j
    rw [Nat.testBit_and, Nat.zero_testBit]
    cases ha : a.testBit j with
    | false => rfl
    | true =>
      cases hb : b.testBit j with
      | false => rfl
      | true => exact (h j ha hb).elim
theorem pair_some {ws : List (Nat × Nat)} {X a b : Nat} (h : pairW ws X = some (a, b)) : a < 2 ^ ws.length ∧ b < 2 ^ ws.length ∧ treeW ws a X = true ∧ treeW ws b X = true ∧ a &&& b = 0 ∧ a < b := by
  unfold pairW at h
  obtain ⟨a', ha', h⟩ := List.exists_of_findSome?_eq_some h
  unfold pairA at h
  by_cases ht : treeW ws a' X = true
  · rw [if_pos ht, Option.map_eq_some_iff] at h
    obtain ⟨b', hb', e⟩ := h
    cases e
    have h1 := List.find?_some hb'
    have h2 := List.mem_range'_1.1 (List.mem_of_find?_eq_some hb')
    unfold pairBW at h1
    rw [Bool.and_eq_true, decide_eq_true_iff] at h1
    have h3 := List.mem_range.1 ha'
    exact ⟨h3, by omega, ht, h1.2, h1.1, by omega⟩
  · rw [if_neg ht] at h; cases h
theorem pair_none {ws : List (Nat × Nat)} {X : Nat} (h : pairW ws X = none) : ∀ a b, a < 2 ^ ws.length → b < 2 ^ ws.length → a < b → treeW ws a X = true → treeW ws b X = true → a &&& b = 0 → False := by
  intro a b ha hb hab h1 h2 h3
  unfold pairW at h
  have h := List.findSome?_eq_none_iff.1 h a (List.mem_range.2 ha)
  unfold pairA at h
  rw [if_pos h1, Option.map_eq_none_iff] at h
  have := List.find?_eq_none.1 h b (List.mem_range'_1.2 ⟨by omega, by omega⟩)
  unfold pairBW at this
  rw [decide_eq_true h3, h2] at this
  exact this rfl
theorem pair_lt {nodes : Nat} {ws : List (Nat × Nat)} (hn : NetN nodes ws) {X a b : Nat} (hX2 : 2 ≤ pop X) (h1 : treeW ws a X = true) (h3 : a &&& b = 0) : a ≠ b := by
  intro e
  subst e
  rw [Nat.and_self] at h3
  subst h3
  unfold treeW at h1
  rw [Bool.and_eq_true, Bool.and_eq_true, decide_eq_true_iff] at h1
  have h2 := h1.2.1
  have : pop 0 = 0 := rfl
  omega
/-- There is a pair just if two trees without a common wire are there. -/
theorem pair_any {nodes : Nat} {ws : List (Nat × Nat)} (hn : NetN nodes ws) {X : Nat} (hX2 : 2 ≤ pop X) : (pairW ws X).isSome = true ↔ ∃ a b, a < 2 ^ ws.length ∧ b < 2 ^ ws.length ∧ treeW ws a X = true ∧ treeW ws b X = true ∧ a &&& b = 0 := by
  constructor
  · intro h
    obtain ⟨⟨a, b⟩, e⟩ := Option.isSome_iff_exists.1 h
    obtain ⟨h1, h2, h3, h4, h5, _⟩ := pair_some e
    exact ⟨a, b, h1, h2, h3, h4, h5⟩
  · rintro ⟨a, b, h1, h2, h3, h4, h5⟩
    cases e : pairW ws X with
    | some _ => rfl
    | none =>
      exfalso
      have hne := pair_lt hn hX2 h3 h5
      rcases Nat.lt_or_ge a b with hl | hl
      · exact pair_none e a b h1 h2 hl h3 h4 h5
      · exact pair_none e b a h2 h1 (by omega) h4 h3 (by rw [Nat.and_comm]; exact h5)
theorem pop_two {X : Nat} (h0 : X.testBit 0 = true) (h1 : X.testBit 1 = true) : 2 ≤ pop X := pop_pair (u := 0) (v := 1) (by decide) (by decide) (by decide) h0 h1
/-- Two trees decide. -/
theorem pair_decides {nodes : Nat} {ws : List (Nat × Nat)} (hn : NetN nodes ws) : gWin ws.length (linkW ws) (cutW ws) 0 0 2 = 1 ↔ ∃ X, X < 2 ^ nodes ∧ X.testBit 0 = true ∧ X.testBit 1 = true ∧ (pairW ws X).isSome = true := by
  rw [lehman hn]
  constructor
  · rintro ⟨X, T1, T2, hX, h0, h1, hp1, hp2, hd⟩
    refine ⟨X, ?_, h0, h1, (pair_any hn (pop_two h0 h1)).2 ⟨T1, T2, hp1.1, hp2.1, (tree_span hn hp1.1 hX h0).2 hp1, (tree_span hn hp2.1 hX h0).2 hp2, andZ_iff.2 hd⟩⟩
    -- nodes that are come to are nodes of the net
    apply Nat.lt_pow_two_of_testBit
    intro j hj
    cases e : X.testBit j with
    | false => rfl
    | true =>
      exfalso
      have hc := hp1.2.2.2 0 j h0 e
      have hcl : ClosedW ws T1 (2 ^ nodes - 1) := fun k w hk _ => by
        have := hn.2.2.2 w (List.mem_of_getElem? hk)
        rw [full_bit hn, full_bit hn, decide_eq_true this.1, decide_eq_true this.2.1]
      have := closed_conn hcl hc
      rw [full_bit hn, full_bit hn, decide_eq_true (by have := hn.1; omega : 0 < nodes), decide_eq_false (by omega)] at this
      cases this
  · rintro ⟨X, hX, h0, h1, hp⟩
    have hX5 : X < 2 ^ 5 := Nat.lt_of_lt_of_le hX (Nat.pow_le_pow_right (by decide) hn.2.1)
    obtain ⟨a, b, h2, h3, h4, h5, h6⟩ := (pair_any hn (pop_two h0 h1)).1 hp
    exact ⟨X, a, b, hX5, h0, h1, (tree_span hn h2 hX5 h0).1 h4, (tree_span hn h3 hX5 h0).1 h5, andZ_iff.1 h6⟩
/-- Two trees have twice as many wires. -/
theorem pair_wires {nodes : Nat} {ws : List (Nat × Nat)} (hn : NetN nodes ws) {a b : Nat} (ha : a < 2 ^ ws.length) (hb : b < 2 ^ ws.length) (h1 : treeW ws a (2 ^ nodes - 1) = true) (h2 : treeW ws b (2 ^ nodes - 1) = true) (h3 : a &&& b = 0) : 2 * (nodes - 1) ≤ ws.length := by
  have p1 := tree_pop hn h1
  have p2 := tree_pop hn h2
  have := pop_or (A := a) (B := b) fun j x y => andZ_iff.1 h3 j x y
  have := pop_le (n := ws.length) (x := a ||| b) (by have := hn.2.2.1; omega) (Nat.or_lt_two_pow ha hb)
  omega
/-! ### a wire is given back -/
end Go.Proofs.YtbmmcldbllhhhaaDoor

/- How many trees a net has, and how many through a wire. No program text. -/
set_option maxRecDepth 20000
namespace Go.Proofs.YtbmmcldbllhhhaaDoor
open Go Go.Ip

def treesN (nodes : Nat) (ws : List (Nat × Nat)) : Nat := (List.range (2 ^ ws.length)).countP fun S => treeW ws S (2 ^ nodes - 1)
section
variable {nodes : Nat} {ws : List (Nat × Nat)} (hn : NetN nodes ws)
include hn
end

/-! ### wires side by side -/
/-! ### a further wire -/
/-- The list of the trees. -/
def treesF (nodes : Nat) (ws : List (Nat × Nat)) : List Nat := (List.range (2 ^ ws.length)).filter fun S => treeW ws S (2 ^ nodes - 1)
theorem treesF_length (nodes : Nat) (ws : List (Nat × Nat)) : (treesF nodes ws).length = treesN nodes ws := by
  unfold treesF treesN; rw [List.countP_eq_length_filter]
end Go.Proofs.YtbmmcldbllhhhaaDoor

/- The model's chapter 10: trees of a net, pairs of them, what gives back a wire, how many go through a wire. -/
set_option maxRecDepth 20000
namespace Go.Proofs.YtbmmcldbllhhhaaDoor
open Go Go.Ip G

/-! ### what is meant -/
def castN (l : List Nat) : List Int := l.map fun k : Nat => (k : Int)
def treeL (nodes : Int) (ws : List (Int × Int)) (set : Int) : Bool := wiresB nodes ws && (decide (0 ≤ set ∧ set < ((2 ^ ws.length : Nat) : Int)) && treeW (natW ws) set.toNat (2 ^ nodes.toNat - 1))
def treesL (nodes : Int) (ws : List (Int × Int)) : List Int := if wiresB nodes ws = true then castN (treesF nodes.toNat (natW ws)) else []
def tpairO (nodes : Int) (ws : List (Int × Int)) : Option (Nat × Nat) := if wiresB nodes ws = true then pairW (natW ws) (2 ^ nodes.toNat - 1) else none
def pairP : Option (Nat × Nat) → PV
  | some (a, b) => .tup [.int .i64 (a : Int), .int .i64 (b : Int), .bool true]
  | none => .tup [.int .i64 0, .int .i64 0, .bool false]
theorem size_pop (S : Nat) : sizeN S = pop S := by unfold sizeN cellsN pop; rw [List.countP_eq_length_filter]
variable (g : Nat → PV) (lf n : Nat)

/-! ### a tree -/
theorem l10Tree_calls {nodes : Nat} {vs : List (Nat × Nat)} (hn : NetN nodes vs) {p : PV} {h : PHeap} (hp : WSl h p (castW vs)) {S X : Nat} (hS9 : S < 2 ^ 9) (hX9 : X < 2 ^ 9) (N : Nat) (hN : 4 ≤ N) (hlf : 1000 < lf) :
    ∃ h', CL g lf N fn_spec_l10Tree [p, .int .i64 (S : Int), .int .i64 (X : Int)] h = some (.bool (treeW vs S X), h') ∧ Keep h.length h h' := by
  obtain ⟨n, rfl⟩ : ∃ n, N = n + 1 := ⟨N - 1, by omega⟩
  have hlen := hp.len
  rw [castW_length] at hlen
  have hl8 := hn.2.2.1
  have h0M : 0 < nodes := by have := hn.1; omega
  have : W (CL g lf (n + 1) fn_spec_l10Tree [p, .int .i64 (S : Int), .int .i64 (X : Int)] h) fun v h' => v = .bool (treeW vs S X) ∧ Keep h.length h h' := by
    rw [spec_l10Tree.call_eq]
    unfold spec_l10Tree.main
    simp only [env_lf]
    refine loopW (fun m s => ∃ k : Nat, s = spec_l10Tree.st0 p (.int .i64 (S : Int)) (.int .i64 (X : Int)) (.int .i64 (k : Int)) h ∧ k + m = vs.length ∧ ∀ j w, j < k → vs[j]? = some w → S.testBit j = true → X.testBit w.1 = true ∧ X.testBit w.2 = true) ?_ lf vs.length _ (by omega) ⟨0, rfl, by omega, fun j w hj => by omega⟩
    rintro n1 m s ⟨k, rfl, hkm, hall⟩ next
    rw [spec_l10Tree.body0_eq]
    unfold spec_l10Tree.body0
    simp only [env_pick, env_load, env_bin, env_fieldAddr, env_indexAddr, env_len]
    cases m with
    | zero =>
      have hkl : k = vs.length := by omega
      have hwi : withinW vs S X = true := within_iff.2 fun j w hj hs => hall j w (by rw [hkl]; exact (List.getElem?_eq_some_iff.1 hj).1) hj hs
      have htw : treeW vs S X = (decide (pop S + 1 = pop X) && decide (reachW vs S 0 = X)) := by unfold treeW; rw [hwi]; rfl
      obtain ⟨h1, e1, k1⟩ := l6Size_calls g lf hS9 n (by omega) hlf h
      obtain ⟨h2, e2, k2⟩ := l6Size_calls g lf hX9 n (by omega) hlf h1
      rw [size_pop] at e1 e2
      have K2 := k1.trans (k2.mono k1.1)
      have e3 : CL g lf n fn_spec_l9Reach [p, .int .i64 (S : Int), .int .i64 0] h2 = some (.int .i64 ((reachW vs S 0 : Nat) : Int), h2) := reach_calls g lf hn (u := 0) (hp.keep K2) (by omega) h0M n (by omega) hlf
      have hb9 := pop_le (n := 9) (x := X) (by decide) hX9
      have ha9 := pop_le (n := 9) (x := S) (by decide) hS9
      rw [htw]
      obtain ⟨a, ha⟩ : ∃ a, a = pop S := ⟨_, rfl⟩
      obtain ⟨b, hb⟩ : ∃ b, b = pop X := ⟨_, rfl⟩
      obtain ⟨R, hR⟩ : ∃ R, R = reachW vs S 0 := ⟨_, rfl⟩
      rw [← ha] at e1 ha9 ⊢
      rw [← hb] at e2 hb9 ⊢
      rw [← hR] at e3 ⊢
      have hsb : -4611686018427387904 ≤ (b : Int) - 1 ∧ (b : Int) - 1 ≤ 4611686018427387904 := by omega
      by_cases c1 : a + 1 = b
      · have c1' : (a : Int) = (b : Int) - 1 := by omega
        rw [decide_eq_true c1, Bool.true_and]
        by_cases c2 : R = X
        · rw [decide_eq_true c2]
          repeat (first | with_reducible refine wF ?_ | with_reducible refine wg1 rfl ?_ | with_reducible refine wpT ?_ | with_reducible refine wpv ?_ | with_reducible refine wsm ?_ | with_reducible refine wrB ?_ | with_reducible refine wbd (by assumption) ?_ | (with_reducible refine wsub hsb ?_) | with_reducible refine wlssF (by omega) ?_ | with_reducible refine weqlT (by omega) ?_ | rw [kLoop_exit] | rw [spec_l10Tree.after0_se0_0_1_2_7_11] | dsimp only | simp only [env_C, env_Y, env_g, env_lf, env_pick, env_alloc, env_box, env_build, env_buildSlice, env_load, env_store, env_ptr, env_bin, env_un, env_conv, env_make, env_slice, env_fieldAddr, env_field, env_indexAddr, env_index, env_extract, env_len, env_append, env_max, env_min, env_makeMap, env_lookup, env_update, env_clos, env_bstr])
          exact W.ret ⟨rfl, K2⟩
        · rw [decide_eq_false c2]
          repeat (first | with_reducible refine wF ?_ | with_reducible refine wg1 rfl ?_ | with_reducible refine wpT ?_ | with_reducible refine wpv ?_ | with_reducible refine wsm ?_ | with_reducible refine wrB ?_ | with_reducible refine wbd (by assumption) ?_ | (with_reducible refine wsub hsb ?_) | with_reducible refine wlssF (by omega) ?_ | with_reducible refine weqlT (by omega) ?_ | with_reducible refine weqlF (by omega) ?_ | rw [kLoop_exit] | rw [spec_l10Tree.after0_se0_0_1_2_7_11] | dsimp only | simp only [env_C, env_Y, env_g, env_lf, env_pick, env_alloc, env_box, env_build, env_buildSlice, env_load, env_store, env_ptr, env_bin, env_un, env_conv, env_make, env_slice, env_fieldAddr, env_field, env_indexAddr, env_index, env_extract, env_len, env_append, env_max, env_min, env_makeMap, env_lookup, env_update, env_clos, env_bstr])
          exact W.ret ⟨rfl, K2⟩
      · have c1' : ¬ (a : Int) = (b : Int) - 1 := by omega
        rw [decide_eq_false c1, Bool.false_and]
        repeat (first | with_reducible refine wF ?_ | with_reducible refine wg0 rfl ?_ | with_reducible refine wpF ?_ | with_reducible refine wsm ?_ | with_reducible refine wrB ?_ | with_reducible refine wbd (by assumption) ?_ | (with_reducible refine wsub hsb ?_) | with_reducible refine wlssF (by omega) ?_ | with_reducible refine weqlF (by omega) ?_ | rw [kLoop_exit] | rw [spec_l10Tree.after0_se0_0_1_2_7_11] | dsimp only | simp only [env_C, env_Y, env_g, env_lf, env_pick, env_alloc, env_box, env_build, env_buildSlice, env_load, env_store, env_ptr, env_bin, env_un, env_conv, env_make, env_slice, env_fieldAddr, env_field, env_indexAddr, env_index, env_extract, env_len, env_append, env_max, env_min, env_makeMap, env_lookup, env_update, env_clos, env_bstr])
        exact W.ret ⟨rfl, K2⟩
    | succ m =>
      have hk : k < vs.length := by omega
      have hkc : k < (castW vs).length := by rw [castW_length]; exact hk
      obtain ⟨id, off, e0, l0, l1, l2⟩ := hp.at hkc
      rw [castW_get hkc hk] at l0 l1 l2
      have hwk : vs[k]? = some vs[k] := List.getElem?_eq_getElem hk
      obtain ⟨⟨A, B⟩, hw⟩ : ∃ w, w = vs[k] := ⟨_, rfl⟩
      obtain ⟨b1, b2, b3⟩ := hn.2.2.2 vs[k] (List.getElem_mem hk)
      have hn5 := hn.2.1
      rw [← hw] at l0 l1 l2 b1 b2 b3 hwk
      simp only at l0 l1 l2 b1 b2 b3
      have bad : S.testBit k = true → ¬ (X.testBit A = true ∧ X.testBit B = true) → treeW vs S X = false := fun hs hno => by
        have : withinW vs S X = false := by
          cases e : withinW vs S X with
          | false => rfl
          | true => exact (hno (within_iff.1 e k _ hwk hs)).elim
        unfold treeW; rw [this]; rfl
      have good : (S.testBit k = true → X.testBit A = true ∧ X.testBit B = true) → ∀ j w, j < k + 1 → vs[j]? = some w → S.testBit j = true → X.testBit w.1 = true ∧ X.testBit w.2 = true := fun hg j w hj hw' hs => by
        by_cases e : j = k
        · subst e; rw [hwk] at hw'; cases hw'; exact hg hs
        · exact hall j w (by omega) hw' hs
      clear hall
      cases hsb : S.testBit k with
      | false =>
        have z := bit_zero hsb
        repeat (first | with_reducible refine wT ?_ | with_reducible refine wF ?_ | with_reducible refine wg0 rfl ?_ | with_reducible refine wgu ?_ | with_reducible refine wpF ?_ | with_reducible refine wsm ?_ | with_reducible refine wbd (by assumption) ?_ | with_reducible refine wadd1 (by omega) ?_ | with_reducible refine wrem2 ?_ | with_reducible refine wshr (by omega) ?_ | with_reducible refine wlssT (by omega) ?_ | with_reducible refine weqlF (by omega) ?_ | dsimp only)
        exact next _ _ (Nat.lt_succ_self m) ⟨k + 1, rfl, by omega, good (fun hs => by rw [hsb] at hs; cases hs)⟩
      | true =>
        have z := (bit_iff S k).2 hsb
        cases hA : X.testBit A with
        | false =>
          have zA := bit_zero hA
          rw [bad hsb (fun hh => by rw [hA] at hh; cases hh.1)]
          repeat (first | with_reducible refine wT ?_ | with_reducible refine wg1 rfl ?_ | with_reducible refine wg0 rfl ?_ | with_reducible refine wpT ?_ | with_reducible refine wpv ?_ | with_reducible refine wsm ?_ | with_reducible refine wrB ?_ | with_reducible refine wbd (by assumption) ?_ | (with_reducible refine wfa0 ?_) | with_reducible refine wrem2 ?_ | with_reducible refine wshr (by omega) ?_ | with_reducible refine wlssT (by omega) ?_ | with_reducible refine weqlT (by omega) ?_ | rw [kLoop_ret] | rw [spec_l10Tree.K0_ret] | rw [spec_l10Tree.top_sr_6] | dsimp only)
          exact W.ret ⟨rfl, Keep.refl _ _⟩
        | true =>
          have zA := (bit_iff X A).2 hA
          cases hB : X.testBit B with
          | false =>
            have zB := bit_zero hB
            rw [bad hsb (fun hh => by rw [hB] at hh; cases hh.2)]
            repeat (first | with_reducible refine wT ?_ | with_reducible refine wg1 rfl ?_ | with_reducible refine wpT ?_ | with_reducible refine wpF ?_ | with_reducible refine wpv ?_ | with_reducible refine wsm ?_ | with_reducible refine wrB ?_ | with_reducible refine wbd (by assumption) ?_ | (with_reducible refine wfa0 ?_) | (with_reducible refine wfa1 ?_) | with_reducible refine wrem2 ?_ | with_reducible refine wshr (by omega) ?_ | with_reducible refine wlssT (by omega) ?_ | with_reducible refine weqlT (by omega) ?_ | with_reducible refine weqlF (by omega) ?_ | rw [kLoop_ret] | rw [spec_l10Tree.K0_ret] | rw [spec_l10Tree.top_sr_6] | dsimp only)
            exact W.ret ⟨rfl, Keep.refl _ _⟩
          | true =>
            have zB := (bit_iff X B).2 hB
            repeat (first | with_reducible refine wT ?_ | with_reducible refine wF ?_ | with_reducible refine wg1 rfl ?_ | with_reducible refine wpT ?_ | with_reducible refine wpF ?_ | with_reducible refine wpv ?_ | with_reducible refine wsm ?_ | with_reducible refine wbd (by assumption) ?_ | (with_reducible refine wfa0 ?_) | (with_reducible refine wfa1 ?_) | with_reducible refine wadd1 (by omega) ?_ | with_reducible refine wrem2 ?_ | with_reducible refine wshr (by omega) ?_ | with_reducible refine wlssT (by omega) ?_ | with_reducible refine weqlT (by omega) ?_ | with_reducible refine weqlF (by omega) ?_ | dsimp only)
            exact next _ _ (Nat.lt_succ_self m) ⟨k + 1, rfl, by omega, good (fun _ => ⟨hA, hB⟩)⟩
  obtain ⟨_, h', e, rfl, k⟩ := this
  exact ⟨h', e, k⟩

theorem net_of {nodes : Int} {ws : List (Int × Int)} (hb : wiresB nodes ws = true) : ∃ M : Nat, nodes = (M : Int) ∧ ws = castW (natW ws) ∧ NetN M (natW ws) ∧ ws.length ≤ 8 ∧ 2 ^ ws.length ≤ 2 ^ 8 ∧ 2 ≤ M ∧ M ≤ 5 ∧ 2 ^ M ≤ 2 ^ 5 ∧ (1 <<< ws.length : Nat) = 2 ^ ws.length ∧ (1 <<< M : Nat) = 2 ^ M ∧ (natW ws).length = ws.length := by
  obtain ⟨M, rfl, hws, hn⟩ := wires_of hb
  have hl8 : ws.length ≤ 8 := by have := hn.2.2.1; rwa [natW_length] at this
  exact ⟨M, rfl, hws, hn, hl8, Nat.pow_le_pow_right (by decide) hl8, hn.1, hn.2.1, Nat.pow_le_pow_right (by decide) hn.2.1, Nat.one_shiftLeft _, Nat.one_shiftLeft _, natW_length ws⟩

theorem specTreeOk_calls {ws : List (Int × Int)} {p : PV} {h : PHeap} (N : Nat) (hN : 5 ≤ N) (nodes set : Int) (hp : WSl h p ws) (hl : ws.length ≤ 2 ^ 35) (hf : ws.length < lf) (hlf : 1000 < lf) :
    ∃ h', CL g lf N fn_spec_TreeOk [.int .i64 nodes, p, .int .i64 set] h = some (.bool (treeL nodes ws set), h') ∧ Keep h.length h h' := by
  obtain ⟨n, rfl⟩ : ∃ n, N = n + 1 := ⟨N - 1, by omega⟩
  obtain ⟨h1, e1, k1⟩ := specWiresOk_calls g lf n (by omega) nodes hp hl hf
  have : W (CL g lf (n + 1) fn_spec_TreeOk [.int .i64 nodes, p, .int .i64 set] h) fun v h' => v = .bool (treeL nodes ws set) ∧ Keep h.length h h' := by
    rw [spec_TreeOk.call_eq]
    unfold spec_TreeOk.main
    simp only [env_C, env_pick, env_bin, env_len]
    unfold treeL
    cases hb : wiresB nodes ws with
    | false =>
      rw [hb] at e1
      repeat (first | with_reducible refine wg0 rfl ?_ | with_reducible refine wpF ?_ | with_reducible refine wsm ?_ | with_reducible refine wrB ?_ | with_reducible refine wbd (by assumption) ?_ | dsimp only)
      exact W.ret ⟨rfl, k1⟩
    | true =>
      rw [hb] at e1
      obtain ⟨M, rfl, hws, hn, hl8, h28, hM2, hM5, hM32, hpw, hpM, _⟩ := net_of hb
      have hp1 := hp.keep k1
      have hlen := hp1.len
      have h20 := Nat.two_pow_pos ws.length
      have hM0 := Nat.two_pow_pos M
      have hin : CL g lf n fn_spec_l1In [.int .i64 set, .int .i64 0, .int .i64 ((2 ^ ws.length - 1 : Nat) : Int)] h1 = some (.bool (decide (0 ≤ set ∧ set ≤ ((2 ^ ws.length - 1 : Nat) : Int))), h1) := l1In_N g lf n (by omega) h1 set 0 _
      have hde : decide (0 ≤ set ∧ set ≤ ((2 ^ ws.length - 1 : Nat) : Int)) = decide (0 ≤ set ∧ set < ((2 ^ ws.length : Nat) : Int)) := decide_eq_decide.2 (by omega)
      rw [hde] at hin
      rw [Bool.true_and, Int.toNat_natCast]
      cases hs : decide (0 ≤ set ∧ set < ((2 ^ ws.length : Nat) : Int)) with
      | false =>
        rw [hs] at hin
        repeat (first | with_reducible refine wg1 rfl ?_ | with_reducible refine wg0 rfl ?_ | with_reducible refine wpT ?_ | with_reducible refine wpF ?_ | with_reducible refine wpv ?_ | with_reducible refine wsm ?_ | with_reducible refine wrB ?_ | with_reducible refine wbd (by assumption) ?_ | (rw [hpw]) | with_reducible refine wsub1 (by omega) (by omega) ?_ | with_reducible refine wshl (by omega) ?_ | dsimp only)
        exact W.ret ⟨rfl, k1⟩
      | true =>
        rw [hs] at hin
        have hsb := of_decide_eq_true hs
        obtain ⟨S, rfl⟩ := Int.eq_ofNat_of_zero_le hsb.1
        obtain ⟨h2, e2, k2⟩ := l10Tree_calls g lf hn (hws ▸ hp1) (S := S) (X := 2 ^ M - 1) (by omega) (by omega) n (by omega) hlf
        rw [Bool.true_and, Int.toNat_natCast]
        obtain ⟨b, hbb⟩ : ∃ b, b = treeW (natW ws) S (2 ^ M - 1) := ⟨_, rfl⟩
        rw [← hbb] at e2 ⊢
        repeat (first | with_reducible refine wg1 rfl ?_ | with_reducible refine wpT ?_ | with_reducible refine wpv ?_ | with_reducible refine wsm ?_ | with_reducible refine wrB ?_ | with_reducible refine wbd (by assumption) ?_ | (rw [hpw]) | (rw [hpM]) | with_reducible refine wsub1 (by omega) (by omega) ?_ | with_reducible refine wshl (by omega) ?_ | dsimp only)
        exact W.ret ⟨rfl, k1.trans (k2.mono k1.1)⟩
  obtain ⟨_, h', e, rfl, k⟩ := this
  exact ⟨h', e, k⟩

set_option maxHeartbeats 1000000 in
theorem specTreesOf_calls {ws : List (Int × Int)} {p : PV} {h : PHeap} (N : Nat) (hN : 5 ≤ N) (nodes : Int) (hp : WSl h p ws) (hl : ws.length ≤ 2 ^ 35) (hf : ws.length < lf) (hlf : 1000 < lf) :
    ∃ q h', CL g lf N fn_spec_TreesOf [.int .i64 nodes, p] h = some (q, h') ∧ OwnSl h.length h' q (treesL nodes ws) ∧ Keep h.length h h' := by
  obtain ⟨n, rfl⟩ : ∃ n, N = n + 1 := ⟨N - 1, by omega⟩
  suffices this : W (CL g lf (n + 1) fn_spec_TreesOf [.int .i64 nodes, p] h) fun q h' => OwnSl h.length h' q (treesL nodes ws) ∧ Keep h.length h h' by
    obtain ⟨q, h', e, o, k⟩ := this
    exact ⟨q, h', e, o, k⟩
  rw [spec_TreesOf.call_eq]
  unfold spec_TreesOf.main
  simp only [env_lf, env_buildSlice]
  refine wempty fun q0 h0 o0 k0 => ?_
  dsimp only
  unfold treesL
  cases hb : wiresB nodes ws with
  | false =>
    rw [if_neg (by decide)]
    refine loopW (fun m s => s = spec_TreesOf.st0 (.int .i64 nodes) p q0 (.int .i64 0) h0) ?_ lf 0 _ (by omega) rfl
    rintro n1 m s rfl next
    rw [spec_TreesOf.body0_eq]
    unfold spec_TreesOf.body0
    simp only [env_C, env_pick, env_buildSlice, env_bin, env_len, env_append]
    obtain ⟨h1, e1, k1⟩ := specWiresOk_calls g lf n (by omega) nodes (hp.keep k0) hl hf
    rw [hb] at e1
    have hr := o0.res
    repeat (first | with_reducible refine wF ?_ | with_reducible refine wg0 rfl ?_ | with_reducible refine wpF ?_ | with_reducible refine wsm ?_ | with_reducible refine wbd (by assumption) ?_ | rw [kLoop_exit] | rw [spec_TreesOf.after0_se0_0_1_5_6_17] | dsimp only)
    exact W.ret ⟨o0.keep k1, k0.trans (k1.mono k0.1)⟩
  | true =>
    rw [if_pos rfl]
    obtain ⟨M, rfl, hws, hn, hl8, h28, hM2, hM5, hM32, hpw, hpM, hnl⟩ := net_of hb
    rw [Int.toNat_natCast]
    have hM0 := Nat.two_pow_pos M
    have hTF : treesF M (natW ws) = (List.range (2 ^ ws.length)).filter fun S => treeW (natW ws) S (2 ^ M - 1) := by unfold treesF; rw [hnl]
    rw [hTF]
    obtain ⟨T, hT⟩ : ∃ T, T = 2 ^ ws.length := ⟨_, rfl⟩
    rw [← hT] at h28 hpw ⊢
    refine loopW (fun m s => ∃ (S : Nat) (q : PV) (h2 : PHeap), s = spec_TreesOf.st0 (.int .i64 (M : Int)) p q (.int .i64 (S : Int)) h2 ∧ S + m = T ∧ OwnSl h.length h2 q (castN ((List.range S).filter fun S => treeW (natW ws) S (2 ^ M - 1))) ∧ Keep h.length h h2) ?_ lf T _ (by omega) ⟨0, q0, h0, rfl, by omega, o0, k0⟩
    rintro n1 m s ⟨S, q, h2, rfl, hSm, o2, k2⟩ next
    rw [spec_TreesOf.body0_eq]
    unfold spec_TreesOf.body0
    simp only [env_C, env_pick, env_buildSlice, env_bin, env_len, env_append]
    obtain ⟨h3, e3, k3⟩ := specWiresOk_calls g lf n (by omega) (M : Int) (hp.keep k2) hl hf
    rw [hb] at e3
    have K3 := k2.trans (k3.mono k2.1)
    have o3 := o2.keep k3
    have hp3 := hp.keep K3
    have hlen := hp3.len
    cases m with
    | zero =>
      have hST : S = T := by omega
      subst hST
      have hr := o3.res
      repeat (first | with_reducible refine wF ?_ | with_reducible refine wg1 rfl ?_ | with_reducible refine wpT ?_ | with_reducible refine wpv ?_ | with_reducible refine wsm ?_ | with_reducible refine wbd (by assumption) ?_ | (rw [hpw]) | with_reducible refine wshl (by omega) ?_ | with_reducible refine wlssF (by omega) ?_ | rw [kLoop_exit] | rw [spec_TreesOf.after0_se0_0_1_5_6_17] | dsimp only)
      exact W.ret ⟨o3, K3⟩
    | succ m =>
      have hS : S < T := by omega
      obtain ⟨h4, e4, k4⟩ := l10Tree_calls g lf hn (hws ▸ hp3) (S := S) (X := 2 ^ M - 1) (by omega) (by omega) n (by omega) hlf
      have hll : (castN ((List.range S).filter fun S => treeW (natW ws) S (2 ^ M - 1))).length + 1 ≤ 2 ^ 36 := by
        unfold castN
        rw [List.length_map]
        have := List.length_filter_le (fun S => treeW (natW ws) S (2 ^ M - 1)) (List.range S)
        rw [List.length_range] at this
        omega
      have hsu : castN ((List.range (S + 1)).filter fun S => treeW (natW ws) S (2 ^ M - 1)) = castN ((List.range S).filter fun S => treeW (natW ws) S (2 ^ M - 1)) ++ (if treeW (natW ws) S (2 ^ M - 1) = true then [(S : Int)] else []) := by
        unfold castN
        rw [List.range_succ, List.filter_append, List.map_append]
        congr 1
        cases e : treeW (natW ws) S (2 ^ M - 1) <;> simp [List.filter_cons, e]
      have K4 := K3.trans (k4.mono K3.1)
      have o4 := o3.keep k4
      cases ht : treeW (natW ws) S (2 ^ M - 1) with
      | true =>
        rw [ht] at e4
        rw [ht, if_pos rfl] at hsu
        repeat (first | with_reducible refine wT ?_ | with_reducible refine wg1 rfl ?_ | with_reducible refine wpT ?_ | with_reducible refine wpv ?_ | with_reducible refine wsm ?_ | with_reducible refine wbd (by assumption) ?_ | (rw [hpw]) | (rw [hpM]) | with_reducible refine wsub1 (by omega) (by omega) ?_ | with_reducible refine wshl (by omega) ?_ | with_reducible refine wlssT (by omega) ?_ | dsimp only)
        refine wap o4 K4.1 hll fun p' h6 o6 k6 => ?_
        repeat (first | with_reducible refine wadd1 (by omega) ?_ | dsimp only)
        exact next _ _ (Nat.lt_succ_self m) ⟨S + 1, p', h6, rfl, by omega, by rw [hsu]; exact o6, K4.trans k6⟩
      | false =>
        rw [ht] at e4
        rw [ht, if_neg (by decide), List.append_nil] at hsu
        repeat (first | with_reducible refine wT ?_ | with_reducible refine wF ?_ | with_reducible refine wg1 rfl ?_ | with_reducible refine wpT ?_ | with_reducible refine wpv ?_ | with_reducible refine wsm ?_ | with_reducible refine wbd (by assumption) ?_ | (rw [hpw]) | (rw [hpM]) | with_reducible refine wadd1 (by omega) ?_ | with_reducible refine wsub1 (by omega) (by omega) ?_ | with_reducible refine wshl (by omega) ?_ | with_reducible refine wlssT (by omega) ?_ | dsimp only)
        exact next _ _ (Nat.lt_succ_self m) ⟨S + 1, q, h4, rfl, by omega, by rw [hsu]; exact o4, K4⟩

/-! ### pairs -/
set_option maxHeartbeats 1000000 in
theorem l10Pair_calls {nodes : Nat} {vs : List (Nat × Nat)} (hn : NetN nodes vs) {p : PV} {h : PHeap} (hp : WSl h p (castW vs)) {X : Nat} (hX9 : X < 2 ^ 9) (N : Nat) (hN : 5 ≤ N) (hlf : 1000 < lf) :
    ∃ h', CL g lf N fn_spec_l10Pair [p, .int .i64 (X : Int)] h = some (pairP (pairW vs X), h') ∧ Keep h.length h h' := by
  obtain ⟨n, rfl⟩ : ∃ n, N = n + 1 := ⟨N - 1, by omega⟩
  have hl8 := hn.2.2.1
  have h28 : 2 ^ vs.length ≤ 2 ^ 8 := Nat.pow_le_pow_right (by decide) hl8
  have hpw : (1 <<< vs.length : Nat) = 2 ^ vs.length := Nat.one_shiftLeft _
  have hPW : pairW vs X = (List.range' 0 (2 ^ vs.length)).findSome? (pairA vs X) := by unfold pairW; rw [List.range_eq_range']
  have hPA : ∀ a, pairA vs X a = if treeW vs a X = true then ((List.range' (a + 1) (2 ^ vs.length - (a + 1))).find? (pairBW vs X a)).map (fun b => (a, b)) else none := fun a => rfl
  rw [hPW]
  obtain ⟨T, hT⟩ : ∃ T, T = 2 ^ vs.length := ⟨_, rfl⟩
  rw [← hT] at h28 hpw hPA ⊢
  have : W (CL g lf (n + 1) fn_spec_l10Pair [p, .int .i64 (X : Int)] h) fun v h' => v = pairP ((List.range' 0 T).findSome? (pairA vs X)) ∧ Keep h.length h h' := by
    rw [spec_l10Pair.call_eq]
    unfold spec_l10Pair.main
    simp only [env_lf]
    refine loopW (fun m s => ∃ (a : Nat) (h2 : PHeap), s = spec_l10Pair.st0 p (.int .i64 (X : Int)) (.int .i64 (a : Int)) h2 ∧ a + m = T ∧ (List.range' 0 T).findSome? (pairA vs X) = (List.range' a m).findSome? (pairA vs X) ∧ Keep h.length h h2) ?_ lf T _ (by omega) ⟨0, h, rfl, by omega, rfl, Keep.refl _ _⟩
    rintro n1 m s ⟨a, h2, rfl, ham, hfs, k2⟩ next
    rw [hfs]
    have hp2 := hp.keep k2
    have hlen := hp2.len
    rw [castW_length] at hlen
    rw [spec_l10Pair.body0_eq]
    unfold spec_l10Pair.body0
    simp only [env_C, env_lf, env_bin, env_un, env_len]
    cases m with
    | zero =>
      have haT : a = T := by omega
      repeat (first | with_reducible refine wF ?_ | with_reducible refine wrI ?_ | with_reducible refine wrB ?_ | with_reducible refine wbd (by assumption) ?_ | (rw [hpw]) | with_reducible refine wshl (by omega) ?_ | with_reducible refine wlssF (by omega) ?_ | rw [kLoop_exit] | rw [spec_l10Pair.after0_se0_0_1_7_13])
      exact W.ret ⟨rfl, k2⟩
    | succ m =>
      have ha : a < T := by omega
      obtain ⟨h3, e3, k3⟩ := l10Tree_calls g lf hn hp2 (S := a) (X := X) (by omega) hX9 n (by omega) hlf
      have K3 := k2.trans (k3.mono k2.1)
      rw [List.range'_succ, List.findSome?_cons, hPA]
      have hfs' : ∀ o, pairA vs X a = o → (List.range' 0 T).findSome? (pairA vs X) = (match o with | some b => some b | none => (List.range' (a + 1) m).findSome? (pairA vs X)) := fun o ho => by
        rw [hfs, List.range'_succ, List.findSome?_cons, ho]; cases o <;> rfl
      cases ht : treeW vs a X with
      | false =>
        rw [ht] at e3
        have := hfs' none (by rw [hPA, ht, if_neg (by decide)])
        repeat (first | with_reducible refine wT ?_ | with_reducible refine wnF ?_ | with_reducible refine wbd (by assumption) ?_ | (rw [hpw]) | with_reducible refine wadd1 (by omega) ?_ | with_reducible refine wshl (by omega) ?_ | with_reducible refine wlssT (by omega) ?_ | dsimp only)
        have nx := next m (spec_l10Pair.st0 p (.int .i64 (X : Int)) (.int .i64 ((a + 1 : Nat) : Int)) h3) (Nat.lt_succ_self m) ⟨a + 1, h3, rfl, by omega, this, K3⟩
        rw [this] at nx
        exact nx
      | true =>
        rw [ht] at e3
        rw [if_pos rfl]
        have hPAt : pairA vs X a = ((List.range' (a + 1) (T - (a + 1))).find? (pairBW vs X a)).map (fun b => (a, b)) := by rw [hPA, ht, if_pos rfl]
        repeat (first | with_reducible refine wT ?_ | with_reducible refine wF ?_ | with_reducible refine wnT ?_ | with_reducible refine wbd (by assumption) ?_ | (rw [hpw]) | with_reducible refine wadd1 (by omega) ?_ | with_reducible refine wshl (by omega) ?_ | with_reducible refine wlssT (by omega) ?_ | dsimp only)
        refine loopW (fun m2 s => ∃ (b : Nat) (h4 : PHeap), s = spec_l10Pair.st1 p (.int .i64 (X : Int)) (.int .i64 (a : Int)) (.int .i64 (b : Int)) h4 ∧ b + m2 = T ∧ (List.range' (a + 1) (T - (a + 1))).find? (pairBW vs X a) = (List.range' b m2).find? (pairBW vs X a) ∧ Keep h.length h h4) ?_ lf (T - (a + 1)) _ (by omega) ⟨a + 1, h3, rfl, by omega, rfl, K3⟩
        rintro n2 m2 s ⟨b, h4, rfl, hbm, hfb, k4⟩ next2
        have hp4 := hp.keep k4
        have hlen4 := hp4.len
        rw [castW_length] at hlen4
        rw [spec_l10Pair.body1_eq]
        unfold spec_l10Pair.body1
        simp only [env_C, env_pick, env_bin, env_len]
        cases m2 with
        | zero =>
          have hbT : b = T := by omega
          rw [hfb] at hPAt
          have := hfs' none (by rw [hPAt]; rfl)
          have nx := next m (spec_l10Pair.st0 p (.int .i64 (X : Int)) (.int .i64 ((a + 1 : Nat) : Int)) h4) (Nat.lt_succ_self m) ⟨a + 1, h4, rfl, by omega, this, k4⟩
          rw [this] at nx
          rw [hfb]
          repeat (first | with_reducible refine wF ?_ | with_reducible refine wbd (by assumption) ?_ | (rw [hpw]) | with_reducible refine wadd1 (by omega) ?_ | with_reducible refine wshl (by omega) ?_ | with_reducible refine wlssF (by omega) ?_ | rw [kLoop_exit] | rw [spec_l10Pair.after1_se2_0_1_7_8_27] | simp only [env_C, env_Y, env_g, env_lf, env_pick, env_alloc, env_box, env_build, env_buildSlice, env_load, env_store, env_ptr, env_bin, env_un, env_conv, env_make, env_slice, env_fieldAddr, env_field, env_indexAddr, env_index, env_extract, env_len, env_append, env_max, env_min, env_makeMap, env_lookup, env_update, env_clos, env_bstr])
          exact nx
        | succ m2 =>
          have hb : b < T := by omega
          obtain ⟨h5, e5, k5⟩ := l10Tree_calls g lf hn hp4 (S := b) (X := X) (by omega) hX9 n (by omega) hlf
          have K5 := k4.trans (k5.mono k4.1)
          have hfb1 : ∀ v, pairBW vs X a b = v → (List.range' (a + 1) (T - (a + 1))).find? (pairBW vs X a) = if v = true then some b else (List.range' (b + 1) m2).find? (pairBW vs X a) := fun v hv => by
            rw [hfb, List.range'_succ, List.find?_cons, hv]; cases v <;> rfl
          have hab : (a &&& b) < 2 ^ 62 := Nat.lt_of_le_of_lt Nat.and_le_left (by omega)
          have hPB : pairBW vs X a b = (decide (a &&& b = 0) && treeW vs b X) := rfl
          have a62 : a < 2 ^ 62 := by omega
          have b62 : b < 2 ^ 62 := by omega
          obtain ⟨c, hc⟩ : ∃ c, c = a &&& b := ⟨_, rfl⟩
          rw [← hc] at hPB
          by_cases hc0 : c = 0
          · have hc0' : (c : Int) = 0 := by omega
            rw [decide_eq_true hc0, Bool.true_and] at hPB
            cases htb : treeW vs b X with
            | true =>
              rw [htb] at e5 hPB
              rw [hfb1 true hPB]
              repeat (first | with_reducible refine wT ?_ | with_reducible refine wg1 rfl ?_ | with_reducible refine wpT ?_ | with_reducible refine wsm ?_ | with_reducible refine wrI ?_ | with_reducible refine wrB ?_ | with_reducible refine wbd (by assumption) ?_ | (rw [hpw]) | (with_reducible refine wand a62 b62 ?_) | (rw [← hc]) | with_reducible refine wshl (by omega) ?_ | with_reducible refine wlssT (by omega) ?_ | with_reducible refine weqlT (by omega) ?_ | rw [kLoop_ret] | rw [spec_l10Pair.K0_ret] | rw [spec_l10Pair.K1_ret] | rw [spec_l10Pair.top_sr_4_5_6] | dsimp only | simp only [env_C, env_Y, env_g, env_lf, env_pick, env_alloc, env_box, env_build, env_buildSlice, env_load, env_store, env_ptr, env_bin, env_un, env_conv, env_make, env_slice, env_fieldAddr, env_field, env_indexAddr, env_index, env_extract, env_len, env_append, env_max, env_min, env_makeMap, env_lookup, env_update, env_clos, env_bstr])
              exact W.ret ⟨rfl, K5⟩
            | false =>
              rw [htb] at e5 hPB
              have := hfb1 false hPB
              rw [if_neg (by decide)] at this
              repeat (first | with_reducible refine wT ?_ | with_reducible refine wF ?_ | with_reducible refine wg1 rfl ?_ | with_reducible refine wpT ?_ | with_reducible refine wsm ?_ | with_reducible refine wbd (by assumption) ?_ | (rw [hpw]) | (with_reducible refine wand a62 b62 ?_) | (rw [← hc]) | with_reducible refine wadd1 (by omega) ?_ | with_reducible refine wshl (by omega) ?_ | with_reducible refine wlssT (by omega) ?_ | with_reducible refine weqlT (by omega) ?_ | dsimp only)
              exact next2 _ _ (Nat.lt_succ_self m2) ⟨b + 1, h5, rfl, by omega, this, K5⟩
          · have hc0' : ¬ (c : Int) = 0 := by omega
            rw [decide_eq_false hc0, Bool.false_and] at hPB
            have := hfb1 false hPB
            rw [if_neg (by decide)] at this
            repeat (first | with_reducible refine wT ?_ | with_reducible refine wF ?_ | with_reducible refine wg0 rfl ?_ | with_reducible refine wpF ?_ | with_reducible refine wsm ?_ | with_reducible refine wbd (by assumption) ?_ | (rw [hpw]) | (with_reducible refine wand a62 b62 ?_) | (rw [← hc]) | with_reducible refine wadd1 (by omega) ?_ | with_reducible refine wshl (by omega) ?_ | with_reducible refine wlssT (by omega) ?_ | with_reducible refine weqlF (by omega) ?_ | dsimp only)
            exact next2 _ _ (Nat.lt_succ_self m2) ⟨b + 1, h4, rfl, by omega, this, k4⟩
  obtain ⟨_, h', e, rfl, k⟩ := this
  exact ⟨h', e, k⟩

theorem specTreePair_calls {ws : List (Int × Int)} {p : PV} {h : PHeap} (N : Nat) (hN : 6 ≤ N) (nodes : Int) (hp : WSl h p ws) (hl : ws.length ≤ 2 ^ 35) (hf : ws.length < lf) (hlf : 1000 < lf) :
    ∃ h', CL g lf N fn_spec_TreePair [.int .i64 nodes, p] h = some (pairP (tpairO nodes ws), h') ∧ Keep h.length h h' := by
  obtain ⟨n, rfl⟩ : ∃ n, N = n + 1 := ⟨N - 1, by omega⟩
  obtain ⟨h1, e1, k1⟩ := specWiresOk_calls g lf n (by omega) nodes hp hl hf
  have : W (CL g lf (n + 1) fn_spec_TreePair [.int .i64 nodes, p] h) fun v h' => v = pairP (tpairO nodes ws) ∧ Keep h.length h h' := by
    rw [spec_TreePair.call_eq]
    unfold spec_TreePair.main
    simp only [env_C, env_bin, env_un, env_extract]
    unfold tpairO
    cases hb : wiresB nodes ws with
    | false =>
      rw [hb] at e1
      rw [if_neg (by decide)]
      repeat (first | with_reducible refine wT ?_ | with_reducible refine wnF ?_ | with_reducible refine wrI ?_ | with_reducible refine wrB ?_ | with_reducible refine wbd (by assumption) ?_ | dsimp only)
      exact W.ret ⟨rfl, k1⟩
    | true =>
      rw [hb] at e1
      rw [if_pos rfl]
      obtain ⟨M, rfl, hws, hn, hl8, h28, hM2, hM5, hM32, hpw, hpM, _⟩ := net_of hb
      have hp1 := hp.keep k1
      have hM0 := Nat.two_pow_pos M
      obtain ⟨h2, e2, k2⟩ := l10Pair_calls g lf hn (hws ▸ hp1) (X := 2 ^ M - 1) (by omega) n (by omega) hlf
      rw [Int.toNat_natCast]
      cases ho : pairW (natW ws) (2 ^ M - 1) with
      | none =>
        rw [ho] at e2
        have e2 : CL g lf n fn_spec_l10Pair [p, .int .i64 ((2 ^ M - 1 : Nat) : Int)] h1 = some (.tup [.int .i64 0, .int .i64 0, .bool false], h2) := e2
        repeat (first | with_reducible refine wF ?_ | with_reducible refine wnT ?_ | with_reducible refine wrI ?_ | with_reducible refine wrB ?_ | with_reducible refine wx0 ?_ | with_reducible refine wx1 ?_ | with_reducible refine wx2 ?_ | with_reducible refine wbd (by assumption) ?_ | (rw [hpM]) | with_reducible refine wsub1 (by omega) (by omega) ?_ | with_reducible refine wshl (by omega) ?_ | dsimp only)
        exact W.ret ⟨rfl, k1.trans (k2.mono k1.1)⟩
      | some ab =>
        obtain ⟨a, b⟩ := ab
        rw [ho] at e2
        have e2 : CL g lf n fn_spec_l10Pair [p, .int .i64 ((2 ^ M - 1 : Nat) : Int)] h1 = some (.tup [.int .i64 (a : Int), .int .i64 (b : Int), .bool true], h2) := e2
        repeat (first | with_reducible refine wF ?_ | with_reducible refine wnT ?_ | with_reducible refine wrI ?_ | with_reducible refine wrB ?_ | with_reducible refine wx0 ?_ | with_reducible refine wx1 ?_ | with_reducible refine wx2 ?_ | with_reducible refine wbd (by assumption) ?_ | (rw [hpM]) | with_reducible refine wsub1 (by omega) (by omega) ?_ | with_reducible refine wshl (by omega) ?_ | dsimp only)
        exact W.ret ⟨rfl, k1.trans (k2.mono k1.1)⟩
  obtain ⟨_, h', e, rfl, k⟩ := this
  exact ⟨h', e, k⟩

/-! ### a wire given back, and how many trees have it -/
theorem treeL_net {nodes : Int} {ws : List (Int × Int)} {set : Int} (h : treeL nodes ws set = true) : wiresB nodes ws = true ∧ ∃ S : Nat, set = (S : Int) ∧ S < 2 ^ ws.length ∧ treeW (natW ws) S (2 ^ nodes.toNat - 1) = true := by
  unfold treeL at h
  rw [Bool.and_eq_true, Bool.and_eq_true] at h
  have hsb := of_decide_eq_true h.2.1
  obtain ⟨S, rfl⟩ := Int.eq_ofNat_of_zero_le hsb.1
  exact ⟨h.1, S, rfl, by omega, h.2.2⟩

theorem treesN_le {nodes : Nat} {ws : List (Nat × Nat)} : treesN nodes ws ≤ 2 ^ ws.length := by
  unfold treesN
  have := List.countP_le_length (p := fun S => treeW ws S (2 ^ nodes - 1)) (l := List.range (2 ^ ws.length))
  rwa [List.length_range] at this

end Go.Proofs.YtbmmcldbllhhhaaDoor

