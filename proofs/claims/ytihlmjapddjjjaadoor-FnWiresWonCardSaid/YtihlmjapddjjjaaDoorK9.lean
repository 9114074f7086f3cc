/- Texts of this seat, in their order, put together by program. -/
import Derived.Test.YtihlmjapddjjjaaDoorK8
set_option linter.unusedSimpArgs false
set_option linter.unusedVariables false
set_option linter.unusedSectionVars false
/- A game in which both take cells in turn until one of both has what is wanted: never have both, and on a full board one has. Who wins, that a cell more never harms, and that to move never harms. No program text. -/
set_option maxRecDepth 20000
namespace Go.Proofs.YtihlmjapddjjjaaDoor
open Go Go.Ip G

/-- What the first one wants, and the second one: more never harms, and on a full board just one of both has it. -/
structure Game (n : Nat) (J1 J2 : Nat → Bool) : Prop where
  mono1 : ∀ a b, a < 2 ^ n → b < 2 ^ n → (∀ j, a.testBit j = true → b.testBit j = true) → J1 a = true → J1 b = true
  mono2 : ∀ a b, a < 2 ^ n → b < 2 ^ n → (∀ j, a.testBit j = true → b.testBit j = true) → J2 a = true → J2 b = true
  ex : ∀ a, a < 2 ^ n → J2 (2 ^ n - 1 - a) = !J1 a

def gWinF (n : Nat) (J1 J2 : Nat → Bool) : Nat → Nat → Nat → Nat → Nat
  | 0, a, b, t => if J1 a = true then 1 else if J2 b = true then 2 else 3 - t
  | f + 1, a, b, t => if J1 a = true then 1 else if J2 b = true then 2 else
      if ((List.range n).any fun k => !(a ||| b).testBit k && decide (gWinF n J1 J2 f (putA t k a) (putB t k b) (3 - t) = t)) = true then t else 3 - t

def gWin (n : Nat) (J1 J2 : Nat → Bool) (a b t : Nat) : Nat := gWinF n J1 J2 n a b t

theorem gWinF_fuel {n : Nat} {J1 J2 : Nat → Bool} : ∀ (f f' a b t : Nat), frN n a b ≤ f → frN n a b ≤ f' → gWinF n J1 J2 f a b t = gWinF n J1 J2 f' a b t
  | 0, 0, a, b, t, _, _ => rfl
  | 0, f' + 1, a, b, t, h, _ => by
    rw [gWinF, gWinF]
    have : ((List.range n).any fun k => !(a ||| b).testBit k && decide (gWinF n J1 J2 f' (putA t k a) (putB t k b) (3 - t) = t)) = false := by
      rw [List.any_eq_false]
      intro k hk
      rw [fr_zero h (List.mem_range.1 hk)]; simp
    rw [this]; rfl
  | f + 1, 0, a, b, t, _, h => by
    rw [gWinF, gWinF]
    have : ((List.range n).any fun k => !(a ||| b).testBit k && decide (gWinF n J1 J2 f (putA t k a) (putB t k b) (3 - t) = t)) = false := by
      rw [List.any_eq_false]
      intro k hk
      rw [fr_zero h (List.mem_range.1 hk)]; simp
    rw [this]; rfl
  | f + 1, f' + 1, a, b, t, h, h' => by
    rw [gWinF, gWinF]
    have : ((List.range n).any fun k => !(a ||| b).testBit k && decide (gWinF n J1 J2 f (putA t k a) (putB t k b) (3 - t) = t)) = ((List.range n).any fun k => !(a ||| b).testBit k && decide (gWinF n J1 J2 f' (putA t k a) (putB t k b) (3 - t) = t)) := by
      rw [Bool.eq_iff_iff, List.any_eq_true, List.any_eq_true]
      refine exists_congr fun k => and_congr_right fun hk => ?_
      rw [← Bool.eq_iff_iff]
      cases e : (a ||| b).testBit k with
      | true => rfl
      | false =>
        have := fr_put (t := t) (List.mem_range.1 hk) e
        rw [gWinF_fuel f f' (putA t k a) (putB t k b) (3 - t) (by omega) (by omega)]
    rw [this]

/-- What is asked of a position that nobody has won: is there a move after which the one to move wins? -/
def gMove (n : Nat) (J1 J2 : Nat → Bool) (a b t : Nat) : Bool := (List.range n).any fun k => !(a ||| b).testBit k && decide (gWin n J1 J2 (putA t k a) (putB t k b) (3 - t) = t)

theorem gWin_eq (n : Nat) (J1 J2 : Nat → Bool) (a b t : Nat) : gWin n J1 J2 a b t = if J1 a = true then 1 else if J2 b = true then 2 else if gMove n J1 J2 a b t = true then t else 3 - t := by
  have h1 : gWin n J1 J2 a b t = gWinF n J1 J2 (n + 1) a b t := gWinF_fuel _ _ _ _ _ (fr_le _ _ _) (by have := fr_le n a b; omega)
  rw [h1, gWinF]; rfl

theorem gMove_iff {n a b t : Nat} {J1 J2 : Nat → Bool} : gMove n J1 J2 a b t = true ↔ ∃ k, k < n ∧ (a ||| b).testBit k = false ∧ gWin n J1 J2 (putA t k a) (putB t k b) (3 - t) = t := by
  unfold gMove
  rw [List.any_eq_true]
  constructor
  · rintro ⟨k, hk, h⟩
    rw [Bool.and_eq_true, decide_eq_true_eq] at h
    exact ⟨k, List.mem_range.1 hk, by simpa using h.1, h.2⟩
  · rintro ⟨k, hk, h1, h2⟩
    exact ⟨k, List.mem_range.2 hk, by rw [h1, h2]; simp⟩

theorem gw_cases {n a b t : Nat} {J1 J2 : Nat → Bool} (ht : t = 1 ∨ t = 2) : gWin n J1 J2 a b t = 1 ∨ gWin n J1 J2 a b t = 2 := by
  rw [gWin_eq]
  repeat' split
  all_goals first | exact .inl rfl | exact .inr rfl | omega

/-- A position, by its two sets. -/
def gPos (n a b : Nat) : Prop := a < 2 ^ n ∧ b < 2 ^ n ∧ ∀ j, a.testBit j = true → b.testBit j = true → False

theorem gPos.put {n a b t k : Nat} (h : gPos n a b) (hk : k < n) (hf : (a ||| b).testBit k = false) : gPos n (putA t k a) (putB t k b) := by
  rw [Nat.testBit_or, Bool.or_eq_false_iff] at hf
  have hl : 1 <<< k < 2 ^ n := by rw [Nat.one_shiftLeft]; exact Nat.pow_lt_pow_right (by decide) hk
  unfold putA putB
  split
  · refine ⟨Nat.or_lt_two_pow h.1 hl, h.2.1, fun j h1 h2 => ?_⟩
    rw [with_bit, Bool.or_eq_true, decide_eq_true_eq] at h1
    rcases h1 with h1 | rfl
    · exact h.2.2 j h1 h2
    · rw [hf.2] at h2; cases h2
  · refine ⟨h.1, Nat.or_lt_two_pow h.2.1 hl, fun j h1 h2 => ?_⟩
    rw [with_bit, Bool.or_eq_true, decide_eq_true_eq] at h2
    rcases h2 with h2 | rfl
    · exact h.2.2 j h1 h2
    · rw [hf.1] at h1; cases h1

theorem gw_first {n a b t : Nat} {J1 J2 : Nat → Bool} (h : J1 a = true) : gWin n J1 J2 a b t = 1 := by rw [gWin_eq, if_pos h]
/-- Never have both. -/
theorem gPos.both {n a b : Nat} {J1 J2 : Nat → Bool} (hB : Game n J1 J2) (h : gPos n a b) (h1 : J1 a = true) : J2 b = false := by
  cases e : J2 b with
  | false => rfl
  | true =>
    have hc : 2 ^ n - 1 - a < 2 ^ n := by have := Nat.two_pow_pos n; omega
    have h2 := hB.mono2 b _ h.2.1 hc (fun j hj => by
      rw [compl_bit h.1]
      have hjn := bit_small h.2.1 hj
      cases ea : a.testBit j with
      | false => simp [hjn]
      | true => exact (h.2.2 j ea hj).elim) e
    rw [hB.ex a h.1, h1] at h2
    cases h2
/-- If nobody has joined there is a free cell. -/
theorem gPos.free {n a b : Nat} {J1 J2 : Nat → Bool} (hB : Game n J1 J2) (h : gPos n a b) (h1 : J1 a = false) (h2 : J2 b = false) : ∃ k, k < n ∧ (a ||| b).testBit k = false := by
  apply Classical.byContradiction
  intro hn
  have hall : ∀ k, k < n → (a ||| b).testBit k = true := fun k hk => by
    cases e : (a ||| b).testBit k with
    | true => rfl
    | false => exact (hn ⟨k, hk, e⟩).elim
  have hb : 2 ^ n - 1 - a = b := by
    apply Nat.eq_of_testBit_eq
    intro j
    rw [compl_bit h.1]
    by_cases hj : j < n
    · have := hall j hj
      rw [Nat.testBit_or, Bool.or_eq_true] at this
      cases ea : a.testBit j with
      | true =>
        cases eb : b.testBit j with
        | false => simp
        | true => exact (h.2.2 j ea eb).elim
      | false =>
        rw [ea] at this
        simp at this
        simp [hj, this]
    · cases eb : b.testBit j with
      | true => exact (hj (bit_small h.2.1 eb)).elim
      | false => simp [hj]
  have h3 := hB.ex a h.1
  rw [hb, h1, h2] at h3
  cases h3

theorem gw_second {n a b t : Nat} {J1 J2 : Nat → Bool} (hB : Game n J1 J2) (hp : gPos n a b) (h : J2 b = true) : gWin n J1 J2 a b t = 2 := by
  rw [gWin_eq, if_neg, if_pos h]
  intro h1; rw [hp.both hB h1] at h; cases h
theorem gw_open {n a b t : Nat} {J1 J2 : Nat → Bool} (h1 : J1 a = false) (h2 : J2 b = false) : gWin n J1 J2 a b t = if gMove n J1 J2 a b t = true then t else 3 - t := by
  rw [gWin_eq, if_neg (by rw [h1]; decide), if_neg (by rw [h2]; decide)]

theorem gw_mono_aux {n : Nat} {J1 J2 : Nat → Bool} (hB : Game n J1 J2) : ∀ (M m a b a' b' t : Nat), frN n a' b' ≤ M → frN n a b ≤ m → gPos n a b → gPos n a' b' → Better a b a' b' → (t = 1 ∨ t = 2) → gWin n J1 J2 a b t = 1 → gWin n J1 J2 a' b' t = 1 := by
  intro M
  induction M using Nat.strongRecOn with
  | _ M ihM =>
  intro m
  induction m using Nat.strongRecOn with
  | _ m ihm =>
  intro a b a' b' t hM hm hp hp' hbt ht hw
  cases j1' : J1 a' with
  | true => exact gw_first j1'
  | false =>
  cases j1 : J1 a with
  | true => rw [hB.mono1 a a' hp.1 hp'.1 hbt.1 j1] at j1'; cases j1'
  | false =>
  cases j2 : J2 b with
  | true => rw [gw_second hB hp j2] at hw; cases hw
  | false =>
  cases j2' : J2 b' with
  | true => rw [hB.mono2 b' b hp'.2.1 hp.2.1 hbt.2 j2'] at j2; cases j2
  | false =>
  obtain ⟨d, hd, hdf⟩ := hp'.free hB j1' j2'
  -- to move never harms, for smaller positions
  have extra : ∀ x y, gPos n x y → frN n x y ≤ M → (∀ z, frN n z y < frN n x y → gPos n z y → Better x y z y → gWin n J1 J2 z y 2 = 1) → gWin n J1 J2 x y 2 = 1 → gWin n J1 J2 x y 1 = 1 := by
    intro x y hxy hfr hmono hwx
    cases k1 : J1 x with
    | true => exact gw_first k1
    | false =>
    cases k2 : J2 y with
    | true => rw [gw_second hB hxy k2] at hwx; cases hwx
    | false =>
    obtain ⟨e, he, hef⟩ := hxy.free hB k1 k2
    rw [gw_open k1 k2, if_pos]
    refine gMove_iff.2 ⟨e, he, hef, ?_⟩
    have h1 := fr_put (t := 1) he hef
    exact hmono (x ||| (1 <<< e)) (by exact h1) (hxy.put (t := 1) he hef) (better_fr (n := 0))
  rw [gw_open j1 j2] at hw
  rcases ht with rfl | rfl
  · -- the first player to move
    have hmv : gMove n J1 J2 a b 1 = true := by
      cases e : gMove n J1 J2 a b 1 with
      | true => rfl
      | false => rw [e] at hw; simp at hw
    obtain ⟨c, hc, hcf, hcw⟩ := gMove_iff.1 hmv
    have hfc := fr_put (t := 1) hc hcf
    have hpc := hp.put (t := 1) hc hcf
    by_cases hc' : (a' ||| b').testBit c = false
    · rw [gw_open j1' j2', if_pos]
      refine gMove_iff.2 ⟨c, hc, hc', ?_⟩
      have hfc' := fr_put (t := 1) hc hc'
      refine ihM (frN n (putA 1 c a') (putB 1 c b')) (by omega) _ (putA 1 c a) (putB 1 c b) _ _ _ (Nat.le_refl _) (Nat.le_refl _) hpc (hp'.put hc hc') ⟨fun j hj => ?_, fun j hj => hbt.2 j hj⟩ (.inr rfl) hcw
      simp only [putA, if_true] at hj ⊢
      rw [with_bit, Bool.or_eq_true] at hj ⊢
      exact hj.imp_left (hbt.1 j)
    · have hca : a'.testBit c = true := by
        rw [Nat.testBit_or] at hc' hcf
        rw [Bool.or_eq_false_iff] at hcf
        cases ea : a'.testBit c with
        | true => rfl
        | false =>
          rw [ea, Bool.false_or] at hc'
          have := hbt.2 c (by simpa using hc')
          rw [hcf.2] at this; cases this
      have hw2 : gWin n J1 J2 a' b' 2 = 1 := by
        refine ihm (frN n (putA 1 c a) (putB 1 c b)) (by omega) (putA 1 c a) (putB 1 c b) a' b' 2 hM (Nat.le_refl _) hpc hp' ⟨fun j hj => ?_, fun j hj => hbt.2 j hj⟩ (.inr rfl) hcw
        simp only [putA, if_true] at hj
        rw [with_bit, Bool.or_eq_true, decide_eq_true_eq] at hj
        rcases hj with hj | rfl
        · exact hbt.1 j hj
        · exact hca
      exact extra a' b' hp' hM (fun z hz hpz hbz => ihM _ (by omega) _ a' b' z b' 2 (Nat.le_refl _) (Nat.le_refl _) hp' hpz hbz (.inr rfl) hw2) hw2
  · -- the second player to move
    have hmv : gMove n J1 J2 a b 2 = false := by
      cases e : gMove n J1 J2 a b 2 with
      | false => rfl
      | true => rw [e] at hw; simp at hw
    have hall : ∀ k, k < n → (a ||| b).testBit k = false → gWin n J1 J2 (putA 2 k a) (putB 2 k b) 1 = 1 := fun k hk hkf => by
      rcases gw_cases (n := n) (J1 := J1) (J2 := J2) (a := putA 2 k a) (b := putB 2 k b) (t := 1) (.inl rfl) with h | h
      · exact h
      · rw [gMove_iff.2 ⟨k, hk, hkf, h⟩] at hmv; cases hmv
    have hw' : gWin n J1 J2 a b 2 = 1 := by rw [gw_open j1 j2, hmv]; rfl
    rw [gw_open j1' j2', if_neg]
    intro hmv'
    obtain ⟨e, he, hef, hew⟩ := gMove_iff.1 hmv'
    have hfe := fr_put (t := 2) he hef
    have hpe := hp'.put (t := 2) he hef
    have hne : gWin n J1 J2 (putA 2 e a') (putB 2 e b') 1 = 1 := by
      by_cases hef2 : (a ||| b).testBit e = false
      · refine ihM (frN n (putA 2 e a') (putB 2 e b')) (by omega) _ (putA 2 e a) (putB 2 e b) _ _ _ (Nat.le_refl _) (Nat.le_refl _) (hp.put he hef2) hpe ⟨fun j hj => hbt.1 j hj, fun j hj => ?_⟩ (.inl rfl) (hall e he hef2)
        simp only [putB] at hj ⊢
        rw [if_neg (by decide), with_bit, Bool.or_eq_true] at hj ⊢
        exact hj.imp_left (hbt.2 j)
      · have heb : b.testBit e = true := by
          rw [Nat.testBit_or] at hef2 hef
          rw [Bool.or_eq_false_iff] at hef
          cases eb : b.testBit e with
          | true => rfl
          | false =>
            rw [eb, Bool.or_false] at hef2
            have := hbt.1 e (by simpa using hef2)
            rw [hef.1] at this; cases this
        have hbt2 : Better a b (putA 2 e a') (putB 2 e b') := ⟨fun j hj => hbt.1 j hj, fun j hj => by
          simp only [putB] at hj
          rw [if_neg (by decide), with_bit, Bool.or_eq_true, decide_eq_true_eq] at hj
          rcases hj with hj | rfl
          · exact hbt.2 j hj
          · exact heb⟩
        have hw2 : gWin n J1 J2 (putA 2 e a') (putB 2 e b') 2 = 1 :=
          ihM (frN n (putA 2 e a') (putB 2 e b')) (by omega) _ a b _ _ _ (Nat.le_refl _) (Nat.le_refl _) hp hpe hbt2 (.inr rfl) hw'
        exact extra _ _ hpe (by omega) (fun z hz hpz hbz => ihM _ (by omega) _ _ _ z _ 2 (Nat.le_refl _) (Nat.le_refl _) hpe hpz hbz (.inr rfl) hw2) hw2
    rw [hne] at hew; cases hew

/-- A stone more never harms. -/
theorem gw_mono {n a b a' b' t : Nat} {J1 J2 : Nat → Bool} (hB : Game n J1 J2) (hp : gPos n a b) (hp' : gPos n a' b') (hbt : Better a b a' b') (ht : t = 1 ∨ t = 2) (hw : gWin n J1 J2 a b t = 1) : gWin n J1 J2 a' b' t = 1 :=
  gw_mono_aux hB _ _ a b a' b' t (Nat.le_refl _) (Nat.le_refl _) hp hp' hbt ht hw
theorem gw_mono2 {n a b a' b' t : Nat} {J1 J2 : Nat → Bool} (hB : Game n J1 J2) (hp : gPos n a b) (hp' : gPos n a' b') (hbt : Better a b a' b') (ht : t = 1 ∨ t = 2) (hw : gWin n J1 J2 a' b' t = 2) : gWin n J1 J2 a b t = 2 := by
  rcases gw_cases (n := n) (J1 := J1) (J2 := J2) (a := a) (b := b) ht with h | h
  · rw [gw_mono hB hp hp' hbt ht h] at hw; cases hw
  · exact h
/-- To move never harms. -/
theorem gw_move {n a b : Nat} {J1 J2 : Nat → Bool} (hB : Game n J1 J2) (hp : gPos n a b) (hw : gWin n J1 J2 a b 2 = 1) : gWin n J1 J2 a b 1 = 1 := by
  cases k1 : J1 a with
  | true => exact gw_first k1
  | false =>
  cases k2 : J2 b with
  | true => rw [gw_second hB hp k2] at hw; cases hw
  | false =>
  obtain ⟨e, he, hef⟩ := hp.free hB k1 k2
  rw [gw_open k1 k2, if_pos]
  exact gMove_iff.2 ⟨e, he, hef, gw_mono hB hp (hp.put (t := 1) he hef) (better_fr (n := 0)) (.inr rfl) hw⟩
theorem gw_move2 {n a b : Nat} {J1 J2 : Nat → Bool} (hB : Game n J1 J2) (hp : gPos n a b) (hw : gWin n J1 J2 a b 1 = 2) : gWin n J1 J2 a b 2 = 2 := by
  rcases gw_cases (n := n) (J1 := J1) (J2 := J2) (a := a) (b := b) (t := 2) (.inr rfl) with h | h
  · rw [gw_move hB hp h] at hw; cases hw
  · exact h


end Go.Proofs.YtihlmjapddjjjaaDoor

/- Nets: which nodes are come to by a set of wires; sets that link the ends. No program text. -/
set_option maxRecDepth 20000
namespace Go.Proofs.YtihlmjapddjjjaaDoor
open Go Go.Ip G

def stepW (set : Nat) : List (Nat × Nat) → Nat → Nat → Nat
  | [], _, now => now
  | w :: l, k, now => stepW set l (k + 1) (if (set.testBit k && (now.testBit w.1 != now.testBit w.2)) = true then now ||| (1 <<< w.1) ||| (1 <<< w.2) else now)
def reachF (ws : List (Nat × Nat)) (set : Nat) : Nat → Nat → Nat
  | 0, now => now
  | f + 1, now => if stepW set ws 0 now = now then now else reachF ws set f (stepW set ws 0 now)
def reachW (ws : List (Nat × Nat)) (set fr : Nat) : Nat := reachF ws set 40 (1 <<< fr)
def linkW (ws : List (Nat × Nat)) (set : Nat) : Bool := (reachW ws set 0).testBit 1
/-- All wires are between two different nodes of at most five. -/
def NetN (nodes : Nat) (ws : List (Nat × Nat)) : Prop := 2 ≤ nodes ∧ nodes ≤ 5 ∧ ws.length ≤ 8 ∧ ∀ w ∈ ws, w.1 < nodes ∧ w.2 < nodes ∧ w.1 ≠ w.2

/-- One comes from a node to another one by wires of a set. -/
inductive Conn (ws : List (Nat × Nat)) (set u : Nat) : Nat → Prop where
  | refl : Conn ws set u u
  | fwd {v k : Nat} {w : Nat × Nat} : Conn ws set u v → ws[k]? = some w → set.testBit k = true → w.1 = v → Conn ws set u w.2
  | bwd {v k : Nat} {w : Nat × Nat} : Conn ws set u v → ws[k]? = some w → set.testBit k = true → w.2 = v → Conn ws set u w.1

theorem Conn.mono {ws : List (Nat × Nat)} {S S' u v : Nat} (hm : ∀ j, S.testBit j = true → S'.testBit j = true) (h : Conn ws S u v) : Conn ws S' u v := by
  induction h with
  | refl => exact .refl
  | fwd _ hw hs e ih => exact .fwd ih hw (hm _ hs) e
  | bwd _ hw hs e ih => exact .bwd ih hw (hm _ hs) e
theorem Conn.trans {ws : List (Nat × Nat)} {S u v x : Nat} (h : Conn ws S u v) (h2 : Conn ws S v x) : Conn ws S u x := by
  induction h2 with
  | refl => exact h
  | fwd _ hw hs e ih => exact .fwd ih hw hs e
  | bwd _ hw hs e ih => exact .bwd ih hw hs e
theorem Conn.symm {ws : List (Nat × Nat)} {S u v : Nat} (h : Conn ws S u v) : Conn ws S v u := by
  induction h with
  | refl => exact .refl
  | fwd _ hw hs e ih => subst e; exact (Conn.bwd .refl hw hs rfl).trans ih
  | bwd _ hw hs e ih => subst e; exact (Conn.fwd .refl hw hs rfl).trans ih

theorem stepW_sub (set : Nat) : ∀ (l : List (Nat × Nat)) (k now j : Nat), now.testBit j = true → (stepW set l k now).testBit j = true
  | [], _, _, _, h => h
  | w :: l, k, now, j, h => by
    rw [stepW]
    apply stepW_sub
    split
    · rw [with_bit, with_bit, h]; rfl
    · exact h
theorem stepW_in {ws : List (Nat × Nat)} {set u : Nat} : ∀ (l : List (Nat × Nat)) (k now : Nat), ws.drop k = l → (∀ j, now.testBit j = true → Conn ws set u j) → ∀ j, (stepW set l k now).testBit j = true → Conn ws set u j
  | [], _, _, _, h => h
  | w :: l, k, now, hd, h => by
    have hk : ws[k]? = some w := by rw [← List.head?_drop, hd]; rfl
    have hd' : ws.drop (k + 1) = l := by rw [← List.tail_drop, hd]; rfl
    rw [stepW]
    apply stepW_in l (k + 1) _ hd'
    intro j hj
    split at hj
    · rename_i hc
      rw [Bool.and_eq_true, bne_iff_ne, ne_eq] at hc
      obtain ⟨hs, hne⟩ := hc
      rw [with_bit, with_bit, Bool.or_eq_true, Bool.or_eq_true, decide_eq_true_eq, decide_eq_true_eq] at hj
      rcases hj with (hj | rfl) | rfl
      · exact h j hj
      · cases e1 : now.testBit w.1 with
        | true => exact h _ e1
        | false =>
          cases e2 : now.testBit w.2 with
          | true => exact .bwd (h _ e2) hk hs rfl
          | false => rw [e1, e2] at hne; exact absurd rfl hne
      · cases e2 : now.testBit w.2 with
        | true => exact h _ e2
        | false =>
          cases e1 : now.testBit w.1 with
          | true => exact .fwd (h _ e1) hk hs rfl
          | false => rw [e1, e2] at hne; exact absurd rfl hne
    · exact h j hj
/-- If a step adds nothing, the set is closed. -/
theorem stepW_fix {set : Nat} : ∀ (l : List (Nat × Nat)) (k now : Nat), stepW set l k now = now → ∀ i w, l[i]? = some w → set.testBit (k + i) = true → now.testBit w.1 = now.testBit w.2
  | [], _, _, _, i, w, hw, _ => by simp at hw
  | w0 :: l, k, now, h, i, w, hw, hs => by
    rw [stepW] at h
    have h0 : (if (set.testBit k && (now.testBit w0.1 != now.testBit w0.2)) = true then now ||| (1 <<< w0.1) ||| (1 <<< w0.2) else now) = now := by
      apply Nat.eq_of_testBit_eq
      intro j
      cases e : now.testBit j with
      | true => split <;> simp [with_bit, e]
      | false =>
        cases e2 : (if (set.testBit k && (now.testBit w0.1 != now.testBit w0.2)) = true then now ||| (1 <<< w0.1) ||| (1 <<< w0.2) else now).testBit j with
        | false => rfl
        | true =>
          have := stepW_sub set l (k + 1) _ j e2
          rw [h, e] at this; cases this
    cases i with
    | zero =>
      simp at hw; subst hw
      rw [Nat.add_zero] at hs
      by_cases e : now.testBit w0.1 = now.testBit w0.2
      · exact e
      · rw [if_pos (by rw [hs, Bool.true_and, bne_iff_ne]; exact e)] at h0
        have h1 : now.testBit w0.1 = true := by rw [← h0, with_bit, with_bit]; simp
        have h2 : now.testBit w0.2 = true := by rw [← h0, with_bit]; simp
        rw [h1, h2]
    | succ i =>
      rw [h0] at h
      exact stepW_fix l (k + 1) now h i w (by simpa using hw) (by rw [show k + 1 + i = k + (i + 1) by omega]; exact hs)
theorem stepW_lt {set n : Nat} : ∀ (l : List (Nat × Nat)) (k now : Nat), (∀ w ∈ l, w.1 < n ∧ w.2 < n) → now < 2 ^ n → stepW set l k now < 2 ^ n
  | [], _, _, _, h => h
  | w :: l, k, now, hl, h => by
    rw [stepW]
    refine stepW_lt l (k + 1) _ (fun x hx => hl x (by simp [hx])) ?_
    obtain ⟨a, b⟩ := hl w (by simp)
    split
    · exact Nat.or_lt_two_pow (Nat.or_lt_two_pow h (by rw [Nat.one_shiftLeft]; exact Nat.pow_lt_pow_right (by decide) a)) (by rw [Nat.one_shiftLeft]; exact Nat.pow_lt_pow_right (by decide) b)
    · exact h
theorem stepW_le {set : Nat} (l : List (Nat × Nat)) (k now : Nat) : now ≤ stepW set l k now := sub_le fun j hj => stepW_sub set l k now j hj
theorem reachF_ok {ws : List (Nat × Nat)} {set n u : Nat} (hl : ∀ w ∈ ws, w.1 < n ∧ w.2 < n) : ∀ (f now : Nat), now < 2 ^ n → 2 ^ n < now + f → (∀ j, now.testBit j = true → Conn ws set u j) →
    (∀ j, now.testBit j = true → (reachF ws set f now).testBit j = true) ∧ (∀ j, (reachF ws set f now).testBit j = true → Conn ws set u j) ∧ reachF ws set f now < 2 ^ n ∧ stepW set ws 0 (reachF ws set f now) = reachF ws set f now
  | 0, now, h, h2, _ => by omega
  | f + 1, now, h, h2, h3 => by
    rw [reachF]
    split
    · rename_i e; exact ⟨fun _ h => h, h3, h, e⟩
    · rename_i e
      have hle := stepW_le (set := set) ws 0 now
      obtain ⟨a, b, c, d⟩ := reachF_ok hl f (stepW set ws 0 now) (stepW_lt ws 0 now hl h) (by omega) (stepW_in ws 0 now rfl h3)
      exact ⟨fun j hj => a j (stepW_sub set ws 0 now j hj), b, c, d⟩
theorem reach_bit {nodes : Nat} {ws : List (Nat × Nat)} (hn : NetN nodes ws) {set u : Nat} (hu : u < nodes) (j : Nat) : (reachW ws set u).testBit j = true ↔ Conn ws set u j := by
  obtain ⟨n1, n2, n3, n4⟩ := hn
  have h1 : 1 <<< u < 2 ^ 5 := by rw [Nat.one_shiftLeft]; exact Nat.pow_lt_pow_right (by decide) (by omega)
  have h0 : 0 < 1 <<< u := by rw [Nat.one_shiftLeft]; exact Nat.two_pow_pos u
  obtain ⟨a, b, c, d⟩ := reachF_ok (ws := ws) (set := set) (n := 5) (u := u) (fun w hw => by have := n4 w hw; omega) 40 (1 <<< u) h1 (by omega) (fun j hj => by
    rw [one_bit] at hj
    have hju : j = u := by simpa using hj
    subst hju; exact .refl)
  refine ⟨b j, fun h => ?_⟩
  have hfix := stepW_fix ws 0 (reachW ws set u) d
  induction h with
  | refl => exact a u (by rw [one_bit]; simp)
  | fwd _ hw hs e ih => subst e; rw [← hfix _ _ hw (by rw [Nat.zero_add]; exact hs)]; exact ih
  | bwd _ hw hs e ih => subst e; rw [hfix _ _ hw (by rw [Nat.zero_add]; exact hs)]; exact ih
theorem link_iff {nodes : Nat} {ws : List (Nat × Nat)} (hn : NetN nodes ws) {set : Nat} : linkW ws set = true ↔ Conn ws set 0 1 := reach_bit hn (by have := hn.1; omega) 1
theorem link_mono {nodes : Nat} {ws : List (Nat × Nat)} (hn : NetN nodes ws) {S S' : Nat} (hm : ∀ j, S.testBit j = true → S'.testBit j = true) (h : linkW ws S = true) : linkW ws S' = true := (link_iff hn).2 (((link_iff hn).1 h).mono hm)

/-- The game of wires. -/
def cutW (ws : List (Nat × Nat)) (b : Nat) : Bool := !linkW ws (2 ^ ws.length - 1 - b)
theorem wire_game {nodes : Nat} {ws : List (Nat × Nat)} (hn : NetN nodes ws) : Game ws.length (linkW ws) (cutW ws) where
  mono1 := fun a b _ _ hm h => link_mono hn hm h
  mono2 := fun a b ha hb hm h => by
    unfold cutW at *
    rw [Bool.not_eq_true'] at h ⊢
    cases e : linkW ws (2 ^ ws.length - 1 - b) with
    | false => rfl
    | true =>
      rw [link_mono hn (fun j hj => ?_) e] at h
      · cases h
      · rw [compl_bit hb, Bool.and_eq_true] at hj
        rw [compl_bit ha, hj.1, Bool.true_and]
        cases ea : a.testBit j with
        | false => rfl
        | true => rw [hm j ea] at hj; simp at hj
  ex := fun a ha => by unfold cutW; rw [show 2 ^ ws.length - 1 - (2 ^ ws.length - 1 - a) = a by omega]

end Go.Proofs.YtihlmjapddjjjaaDoor

/- Least sets of wires that link, and that cut. No program text. -/
set_option maxRecDepth 20000
namespace Go.Proofs.YtihlmjapddjjjaaDoor
open Go Go.Ip G

section
variable {nodes : Nat} {ws : List (Nat × Nat)} (hn : NetN nodes ws)
include hn
end

end Go.Proofs.YtihlmjapddjjjaaDoor

/- A further wire never harms who joins; with two wires between the ends the first one wins. No program text. -/
set_option maxRecDepth 20000
namespace Go.Proofs.YtihlmjapddjjjaaDoor
open Go Go.Ip G

theorem Conn.more {ws l : List (Nat × Nat)} {S u v : Nat} (h : Conn ws S u v) : Conn (ws ++ l) S u v := by
  have hg : ∀ {k : Nat} {w}, ws[k]? = some w → (ws ++ l)[k]? = some w := fun hw => by rw [List.getElem?_append_left (List.getElem?_eq_some_iff.1 hw).1]; exact hw
  induction h with
  | refl => exact .refl
  | fwd _ hw hs e ih => exact .fwd ih (hg hw) hs e
  | bwd _ hw hs e ih => exact .bwd ih (hg hw) hs e
end Go.Proofs.YtihlmjapddjjjaaDoor

/- The gap of wires: layers of nodes, by how many free wires must be taken to come to them. No program text. -/
set_option maxRecDepth 20000
namespace Go.Proofs.YtihlmjapddjjjaaDoor
open Go Go.Ip G

/-! ### as it is reckoned -/
/-! ### as sets of nodes -/
def Cr (ws : List (Nat × Nat)) (free : Nat) (S : Nat → Prop) (u : Nat) : Prop := ∃ k w, ws[k]? = some w ∧ free.testBit k = true ∧ ((u = w.1 ∧ S w.2) ∨ (u = w.2 ∧ S w.1))
def Ly (ws : List (Nat × Nat)) (own free : Nat) : Nat → Nat → Prop
  | 0, v => Conn ws own 0 v
  | c + 1, v => ∃ u, (Ly ws own free c u ∨ Cr ws free (Ly ws own free c) u) ∧ Conn ws own u v

section
variable {ws : List (Nat × Nat)} {own free : Nat}
theorem Cr.mono {S T : Nat → Prop} {f f' u : Nat} (hf : ∀ j, f.testBit j = true → f'.testBit j = true) (hS : ∀ v, S v → T v) (h : Cr ws f S u) : Cr ws f' T u := by
  obtain ⟨k, w, hw, hk, h⟩ := h
  refine ⟨k, w, hw, hf k hk, ?_⟩
  rcases h with ⟨h1, h2⟩ | ⟨h1, h2⟩
  · exact .inl ⟨h1, hS _ h2⟩
  · exact .inr ⟨h1, hS _ h2⟩
/-- With the free wires owned as well one comes to just what some layer holds. -/
theorem Ly.conn {c v : Nat} (h : Ly ws own free c v) : Conn ws (own ||| free) 0 v := by
  induction c generalizing v with
  | zero => exact Conn.mono (fun j hj => by rw [Nat.testBit_or, hj]; rfl) (show Conn ws own 0 v from h)
  | succ c ih =>
    obtain ⟨u, hu, hc⟩ := h
    have hc' : Conn ws (own ||| free) u v := hc.mono fun j hj => by rw [Nat.testBit_or, hj]; rfl
    refine Conn.trans ?_ hc'
    rcases hu with hu | ⟨k, w, hw, hk, h⟩
    · exact ih hu
    · have hb : (own ||| free).testBit k = true := by rw [Nat.testBit_or, hk, Bool.or_true]
      rcases h with ⟨rfl, h2⟩ | ⟨rfl, h2⟩
      · exact .bwd (ih h2) hw hb rfl
      · exact .fwd (ih h2) hw hb rfl
/-! ### a free wire that is taken -/
theorem Ly.more {e : Nat} {we : Nat × Nat} (he : ws[e]? = some we) {c v : Nat} (h : Ly ws own free c v) : Ly ws (own ||| (1 <<< e)) (without free e) c v := by
  have hm : ∀ j, own.testBit j = true → (own ||| (1 <<< e)).testBit j = true := fun j hj => by rw [with_bit, hj]; rfl
  have hbe : (own ||| (1 <<< e)).testBit e = true := by rw [with_bit]; simp
  induction c generalizing v with
  | zero => exact Conn.mono hm (show Conn ws own 0 v from h)
  | succ c ih =>
    obtain ⟨u, hu, hc⟩ := h
    have hc' := hc.mono hm
    rcases hu with hu | ⟨k, w, hw, hk, h⟩
    · exact ⟨u, .inl (ih hu), hc'⟩
    · by_cases hke : k = e
      · subst hke
        obtain rfl := Option.some.inj (he.symm.trans hw)
        rcases h with ⟨rfl, h2⟩ | ⟨rfl, h2⟩
        · exact ⟨we.2, .inl (ih h2), (Conn.bwd .refl he hbe rfl).trans hc'⟩
        · exact ⟨we.1, .inl (ih h2), (Conn.fwd .refl he hbe rfl).trans hc'⟩
      · refine ⟨u, .inr ⟨k, w, hw, by rw [without_bit, hk]; simp [hke], ?_⟩, hc'⟩
        rcases h with ⟨h1, h2⟩ | ⟨h1, h2⟩
        · exact .inl ⟨h1, ih h2⟩
        · exact .inr ⟨h1, ih h2⟩
end

/-! ### what is reckoned are the layers -/
theorem Conn.lt {nodes : Nat} {ws : List (Nat × Nat)} (hn : NetN nodes ws) {S u v : Nat} (hu : u < nodes) (h : Conn ws S u v) : v < nodes := by
  cases h with
  | refl => exact hu
  | fwd _ hw _ _ => exact (hn.2.2.2 _ (List.mem_of_getElem? hw)).2.1
  | bwd _ hw _ _ => exact (hn.2.2.2 _ (List.mem_of_getElem? hw)).1

section
variable {nodes : Nat} {ws : List (Nat × Nat)} (hn : NetN nodes ws) {own free : Nat}
include hn
theorem Ly.lt {c v : Nat} (h : Ly ws own free c v) : v < nodes := by
  have := hn.1
  exact Conn.lt hn (by omega) h.conn
end

end Go.Proofs.YtihlmjapddjjjaaDoor

/- Rules to walk through a function's plain form with what is to hold in the end: binds, conditions, guards, comparisons, numbers, calls and loops. -/
set_option maxRecDepth 20000
namespace Go.Proofs.YtihlmjapddjjjaaDoor
open Go Go.Ip G

/-- The result is there, and Q holds of it. -/
def W (x : Res) (Q : PV → PHeap → Prop) : Prop := ∃ v h', x = some (v, h') ∧ Q v h'

section
variable {α : Type} {Q Q' : PV → PHeap → Prop} {P : Program} {t : TypeId} {k : IntKind}

theorem W.ret {v : PV} {h : PHeap} (hq : Q v h) : W (some (v, h)) Q := ⟨v, h, rfl, hq⟩
theorem W.mono {x : Res} (hx : W x Q') (hf : ∀ v h, Q' v h → Q v h) : W x Q := by
  obtain ⟨v, h, e, q⟩ := hx; exact ⟨v, h, e, hf v h q⟩
theorem W.of {x : Res} {v : PV} {h : PHeap} (hx : x = some (v, h)) (hq : Q v h) : W x Q := ⟨v, h, hx, hq⟩
theorem wbd {x : Option α} {v : α} {f : α → Res} (hx : x = some v) (hf : W (f v) Q) : W (x.bind f) Q := by rw [hx]; exact hf
theorem wcall {x : Res} {f : PV × PHeap → Res} (hx : W x Q') (hf : ∀ v h, Q' v h → W (f (v, h)) Q) : W (x.bind f) Q := by
  obtain ⟨v, h, e, q⟩ := hx; rw [e]; exact hf v h q
theorem wT {x y : Res} (h : W x Q) : W (condP (.bool true) x y) Q := h
theorem wF {x y : Res} (h : W y Q) : W (condP (.bool false) x y) Q := h
theorem wg1 {b u : Bool} {x y : Option α} {f : α → Res} (hb : b = u) (hx : W (x.bind f) Q) : W ((wantV (.bool b) u).bind fun v => (bif v then x else y).bind f) Q := by
  subst hb; simpa using hx
theorem wg0 {b u : Bool} {x y : Option α} {f : α → Res} (hb : b = !u) (hy : W (y.bind f) Q) : W ((wantV (.bool b) u).bind fun v => (bif v then x else y).bind f) Q := by
  subst hb; cases u <;> simpa using hy
theorem wpT {u v : PV} {f : PV → Res} (h : W (f u) Q) : W ((pickP (.bool true) u v).bind f) Q := h
theorem wpF {u v : PV} {f : PV → Res} (h : W (f v) Q) : W ((pickP (.bool false) u v).bind f) Q := h
theorem wnT {f : PV → Res} (h : W (f (.bool false)) Q) : W ((unP .not (.bool true)).bind f) Q := h
theorem wnF {f : PV → Res} (h : W (f (.bool true)) Q) : W ((unP .not (.bool false)).bind f) Q := h
theorem wpv {x : Option PV} {h : PHeap} {f : PV × PHeap → Res} (hx : W (x.bind fun v => f (v, h)) Q) : W ((pv h x).bind f) Q := by
  cases x <;> exact hx
theorem wsm {v : α} {f : α → Res} (h : W (f v) Q) : W ((some v).bind f) Q := h
theorem wrI {a : Int} {f : PV → Res} (h : W (f (.int k a)) Q) : W ((resV (.int k a)).bind f) Q := h
theorem wrB {a : Bool} {f : PV → Res} (h : W (f (.bool a)) Q) : W ((resV (.bool a)).bind f) Q := h
theorem wrN {f : PV → Res} (h : W (f .nilsl) Q) : W ((resV .nilsl).bind f) Q := h
theorem wx0 {a : PV} {l : List PV} {f : PV → Res} (h : W (f a) Q) : W ((extractP (.tup (a :: l)) 0).bind f) Q := h
theorem wx1 {a b : PV} {l : List PV} {f : PV → Res} (h : W (f b) Q) : W ((extractP (.tup (a :: b :: l)) 1).bind f) Q := h
theorem wx2 {a b c : PV} {l : List PV} {f : PV → Res} (h : W (f c) Q) : W ((extractP (.tup (a :: b :: c :: l)) 2).bind f) Q := h
theorem wx3 {a b c d : PV} {l : List PV} {f : PV → Res} (h : W (f d) Q) : W ((extractP (.tup (a :: b :: c :: d :: l)) 3).bind f) Q := h
theorem wck {b : Bool} {x : Res} (hb : b = true) (h : W x Q) : W (ckP b x) Q := by rw [hb]; exact h
/-! ### comparisons -/
section
variable {a b : Int} {f : PV → Res}
theorem wlssT (h : a < b) (hf : W (f (.bool true)) Q) : W ((binP P .lss t (.int k a) (.int k b)).bind f) Q := wbd (by rw [bin_lss, decide_eq_true h]) hf
theorem wlssF (h : ¬ a < b) (hf : W (f (.bool false)) Q) : W ((binP P .lss t (.int k a) (.int k b)).bind f) Q := wbd (by rw [bin_lss, decide_eq_false h]) hf
theorem wleqT (h : a ≤ b) (hf : W (f (.bool true)) Q) : W ((binP P .leq t (.int k a) (.int k b)).bind f) Q := wbd (by rw [bin_leq, decide_eq_true h]) hf
theorem wleqF (h : ¬ a ≤ b) (hf : W (f (.bool false)) Q) : W ((binP P .leq t (.int k a) (.int k b)).bind f) Q := wbd (by rw [bin_leq, decide_eq_false h]) hf
theorem wgtrT (h : b < a) (hf : W (f (.bool true)) Q) : W ((binP P .gtr t (.int k a) (.int k b)).bind f) Q := wbd (by rw [bin_gtr, decide_eq_true h]) hf
theorem wgtrF (h : ¬ b < a) (hf : W (f (.bool false)) Q) : W ((binP P .gtr t (.int k a) (.int k b)).bind f) Q := wbd (by rw [bin_gtr, decide_eq_false h]) hf
theorem wgeqT (h : b ≤ a) (hf : W (f (.bool true)) Q) : W ((binP P .geq t (.int k a) (.int k b)).bind f) Q := wbd (by rw [bin_geq, decide_eq_true h]) hf
theorem wgeqF (h : ¬ b ≤ a) (hf : W (f (.bool false)) Q) : W ((binP P .geq t (.int k a) (.int k b)).bind f) Q := wbd (by rw [bin_geq, decide_eq_false h]) hf
theorem weqlT (h : a = b) (hf : W (f (.bool true)) Q) : W ((binP P .eql t (.int k a) (.int k b)).bind f) Q := wbd (by rw [bin_eql, beq_iff_eq.2 h]) hf
theorem weqlF (h : ¬ a = b) (hf : W (f (.bool false)) Q) : W ((binP P .eql t (.int k a) (.int k b)).bind f) Q := wbd (by rw [bin_eql, beq_eq_false_iff_ne.2 h]) hf
theorem wneqT (h : ¬ a = b) (hf : W (f (.bool true)) Q) : W ((binP P .neq t (.int k a) (.int k b)).bind f) Q := wbd (by rw [bin_neq, bne, beq_eq_false_iff_ne.2 h]; rfl) hf
theorem wneqF (h : a = b) (hf : W (f (.bool false)) Q) : W ((binP P .neq t (.int k a) (.int k b)).bind f) Q := wbd (by rw [bin_neq, bne, beq_iff_eq.2 h]; rfl) hf
theorem wlss (h1 : a < b → W (f (.bool true)) Q) (h2 : ¬ a < b → W (f (.bool false)) Q) : W ((binP P .lss t (.int k a) (.int k b)).bind f) Q := by
  by_cases e : a < b
  · exact wlssT e (h1 e)
  · exact wlssF e (h2 e)
theorem wgtr (h1 : b < a → W (f (.bool true)) Q) (h2 : ¬ b < a → W (f (.bool false)) Q) : W ((binP P .gtr t (.int k a) (.int k b)).bind f) Q := by
  by_cases e : b < a
  · exact wgtrT e (h1 e)
  · exact wgtrF e (h2 e)
theorem weql (h1 : a = b → W (f (.bool true)) Q) (h2 : ¬ a = b → W (f (.bool false)) Q) : W ((binP P .eql t (.int k a) (.int k b)).bind f) Q := by
  by_cases e : a = b
  · exact weqlT e (h1 e)
  · exact weqlF e (h2 e)
theorem wneq (h1 : ¬ a = b → W (f (.bool true)) Q) (h2 : a = b → W (f (.bool false)) Q) : W ((binP P .neq t (.int k a) (.int k b)).bind f) Q := by
  by_cases e : a = b
  · exact wneqF e (h2 e)
  · exact wneqT e (h1 e)
end

/-! ### numbers -/
section
variable {a b : Int} {x y : Nat} {f : PV → Res}
theorem wadd (h : -4611686018427387904 ≤ a + b ∧ a + b ≤ 4611686018427387904) (hf : W (f (.int .i64 (a + b))) Q) : W ((binP P .add t (.int .i64 a) (.int .i64 b)).bind f) Q := wbd (by rw [bin_add, wr (by omega)]) hf
theorem wsub (h : -4611686018427387904 ≤ a - b ∧ a - b ≤ 4611686018427387904) (hf : W (f (.int .i64 (a - b))) Q) : W ((binP P .sub t (.int .i64 a) (.int .i64 b)).bind f) Q := wbd (by rw [bin_sub, wr (by omega)]) hf
theorem wmul (h : -4611686018427387904 ≤ a * b ∧ a * b ≤ 4611686018427387904) (hf : W (f (.int .i64 (a * b))) Q) : W ((binP P .mul t (.int .i64 a) (.int .i64 b)).bind f) Q := wbd (by rw [bin_mul, wr (by omega)]) hf
theorem wadd1 (h : x < 4611686018427387904) (hf : W (f (.int .i64 ((x + 1 : Nat) : Int))) Q) : W ((binP P .add t (.int .i64 (x : Int)) (.int .i64 1)).bind f) Q := wbd (by rw [bin_add, wr (by omega)]; rfl) hf
theorem waddN (h : x + y < 4611686018427387904) (hf : W (f (.int .i64 ((x + y : Nat) : Int))) Q) : W ((binP P .add t (.int .i64 (x : Int)) (.int .i64 (y : Int))).bind f) Q := wbd (by rw [bin_add, wr (by omega)]; rfl) hf
theorem wsub1 (h : 1 ≤ x) (h2 : x < 4611686018427387904) (hf : W (f (.int .i64 ((x - 1 : Nat) : Int))) Q) : W ((binP P .sub t (.int .i64 (x : Int)) (.int .i64 1)).bind f) Q := wbd (by rw [bin_sub, wr (by omega), show (x : Int) - 1 = ((x - 1 : Nat) : Int) by omega]) hf
end
end

section
variable {Q : PV → PHeap → Prop} {x y : Nat} {f : PV → Res}
theorem wremN (h : 1 ≤ y) (hf : W (f (.int .i64 ((x % y : Nat) : Int))) Q) : W ((binP Tryd.prog .rem 3 (.int .i64 (x : Int)) (.int .i64 (y : Int))).bind f) Q := wbd (f_rem x y h) hf
theorem wrem2 (hf : W (f (.int .i64 ((x % 2 : Nat) : Int))) Q) : W ((binP Tryd.prog .rem 3 (.int .i64 (x : Int)) (.int .i64 2)).bind f) Q := wbd (f_rem x 2 (by decide)) hf
theorem wshl (h : y ≤ 30) (hf : W (f (.int .i64 ((1 <<< y : Nat) : Int))) Q) : W ((binP Tryd.prog .shl 3 (.int .i64 1) (.int .i64 (y : Int))).bind f) Q := wbd (f_shl y h) hf
theorem wshr (h : y ≤ 60) (hf : W (f (.int .i64 ((x >>> y : Nat) : Int))) Q) : W ((binP Tryd.prog .shr 3 (.int .i64 (x : Int)) (.int .i64 (y : Int))).bind f) Q := wbd (f_shr x y h) hf
theorem wand (hx : x < 2 ^ 62) (hy : y < 2 ^ 62) (hf : W (f (.int .i64 ((x &&& y : Nat) : Int))) Q) : W ((binP Tryd.prog .and 3 (.int .i64 (x : Int)) (.int .i64 (y : Int))).bind f) Q := wbd (f_and hx hy) hf
theorem wor (hx : x < 2 ^ 62) (hy : y < 2 ^ 62) (hf : W (f (.int .i64 ((x ||| y : Nat) : Int))) Q) : W ((binP Tryd.prog .or 3 (.int .i64 (x : Int)) (.int .i64 (y : Int))).bind f) Q := wbd (f_or hx hy) hf

/-- What is in x, and not in y. -/
def minusN (x y : Nat) : Nat := x ^^^ (x &&& y)
theorem minusN_bit (x y j : Nat) : (minusN x y).testBit j = (x.testBit j && !y.testBit j) := by
  unfold minusN; rw [Nat.testBit_xor, Nat.testBit_and]; cases x.testBit j <;> cases y.testBit j <;> rfl
theorem minusN_lt {x y n : Nat} (hx : x < 2 ^ n) : minusN x y < 2 ^ n := Nat.lt_of_le_of_lt (sub_le fun j hj => by rw [minusN_bit, Bool.and_eq_true] at hj; exact hj.1) hx
theorem minusN_one (x k : Nat) : minusN x (1 <<< k) = without x k := rfl

theorem f_andNot (hx : x < 2 ^ 62) (hy : y < 2 ^ 62) : binP Tryd.prog .andNot 3 (.int .i64 (x : Int)) (.int .i64 (y : Int)) = some (.int .i64 ((minusN x y : Nat) : Int)) := by
  have e1 : BitVec.ofInt 64 (x : Int) = BitVec.ofNat 64 x := by rw [BitVec.ofInt_natCast]
  have e2 : BitVec.ofInt 64 (y : Int) = BitVec.ofNat 64 y := by rw [BitVec.ofInt_natCast]
  have e3 : (BitVec.ofNat 64 x &&& ~~~(BitVec.ofNat 64 y)).toNat = minusN x y := by
    apply Nat.eq_of_testBit_eq
    intro j
    rw [minusN_bit, ← BitVec.getLsbD, BitVec.getLsbD_and, BitVec.getLsbD_not, BitVec.getLsbD_ofNat, BitVec.getLsbD_ofNat]
    by_cases hj : j < 64
    · simp [hj]
    · have : x.testBit j = false := Nat.testBit_lt_two_pow (Nat.lt_of_lt_of_le hx (Nat.pow_le_pow_right (by decide) (by omega)))
      simp [hj, this]
  show binI .andNot .i64 (x : Int) (y : Int) = _
  have hl : minusN x y < 2 ^ 62 := minusN_lt hx
  show some (PV.int .i64 (IntKind.i64.wrap ((BitVec.ofInt 64 (x : Int) &&& ~~~(BitVec.ofInt 64 (y : Int))).toNat))) = _
  rw [e1, e2, e3, wr (by omega)]
theorem wandNot (hx : x < 2 ^ 62) (hy : y < 2 ^ 62) (hf : W (f (.int .i64 ((minusN x y : Nat) : Int))) Q) : W ((binP Tryd.prog .andNot 3 (.int .i64 (x : Int)) (.int .i64 (y : Int))).bind f) Q := wbd (f_andNot hx hy) hf

/-! ### slices of integers -/
variable {h : PHeap} {p : PV} {xs : List Int}
theorem wlen (s : IntSl .i64 h p xs) (hf : W (f (.int .i64 (xs.length : Int))) Q) : W ((lenP Tryd.prog 30 p).bind f) Q := wbd s.len' hf
/-- An element is read. -/
theorem wat (s : IntSl .i64 h p xs) {i : Nat} (hi : i < xs.length) (hf : ∀ a, loadP Tryd.prog 3 a h = some (.int .i64 xs[i]) → W (f a) Q) : W ((indexAddrP Tryd.prog 30 p (.int .i64 (i : Int))).bind f) Q := by
  obtain ⟨a, e, l⟩ := s.at' hi; exact wbd e (hf a l)
theorem wresO {n : Nat} (s : OwnSl n h p xs) (hf : W (f p) Q) : W ((resV p).bind f) Q := wbd s.res hf
/-- An element is written. -/
theorem wst {n i : Nat} (s : OwnSl n h p xs) (hi : i < xs.length) {x : Int} {F : PV → PHeap → Res}
    (hf : ∀ h', OwnSl n h' p (xs.set i x) → Keep n h h' → h'.length = h.length → ∀ a, storeP Tryd.prog 3 a (.int .i64 x) h = some h' → W (F a h') Q) :
    W ((indexAddrP Tryd.prog 30 p (.int .i64 (i : Int))).bind fun a => (storeP Tryd.prog 3 a (.int .i64 x) h).bind fun h' => F a h') Q := by
  obtain ⟨a, h', e1, e2, o, k, l⟩ := s.store hi x
  refine wbd e1 ?_
  show W ((storeP Tryd.prog 3 a (.int .i64 x) h).bind fun h' => F a h') Q
  exact wbd e2 (hf h' o k l a e2)
/-- One element is appended. -/
theorem wap {n : Nat} (s : OwnSl n h p xs) (hn : n ≤ h.length) {x : Int} (hl : xs.length + 1 ≤ 2 ^ 36) {F : PV × PHeap → Res}
    (hf : ∀ p' h', OwnSl n h' p' (xs ++ [x]) → Keep n h h' → W (F (p', h')) Q) :
    W ((buildSliceP Tryd.prog 30 1 [(0, .int .i64 x)] h).bind fun v => (appendP Tryd.prog 30 30 p v.1 v.2).bind F) Q := by
  obtain ⟨v, p', h', e1, e2, o, k⟩ := s.append hn x hl
  exact wbd e1 (wbd e2 (hf p' h' o k))
/-- A slice is made. -/
theorem wmake {m : Nat} (hm : m ≤ 2 ^ 36) {F : PV × PHeap → Res} (hf : ∀ p h', OwnSl h.length h' p (List.replicate m 0) → Keep h.length h h' → W (F (p, h')) Q) :
    W ((makeP Tryd.prog 30 (.int .i64 (m : Int)) (.int .i64 (m : Int)) h).bind F) Q := by
  obtain ⟨p, h', e, o, k⟩ := made (h := h) hm; exact wbd e (hf p h' o k)
theorem wempty {F : PV × PHeap → Res} (hf : ∀ p h', OwnSl h.length h' p [] → Keep h.length h h' → W (F (p, h')) Q) : W ((buildSliceP Tryd.prog 30 0 [] h).bind F) Q := by
  obtain ⟨p, h', e, o, k⟩ := empty_lit (h := h); exact wbd e (hf p h' o k)
end

/-! ### loops -/
theorem loopW {f : St → (PX → St → Res) → Res} {k : PX → St → Res} {Q : PV → PHeap → Prop} (I : Nat → St → Prop)
    (step : ∀ n m s, I m s → (∀ m' s', m' < m → I m' s' → W (kLoop f n k .normal s') Q) → W (f s (kLoop f n k)) Q) : ∀ (fuel m : Nat) (s : St), m < fuel → I m s → W (loopK f fuel s k) Q
  | 0, m, s, hm, _ => by omega
  | n + 1, m, s, hm, hI => by
    rw [loopK_succ]
    exact step n m s hI fun m' s' hm' hI' => by rw [kLoop_normal]; exact loopW I step n m' s' (by omega) hI'

/-- A list that whatever changes behind mark b leaves as it is. -/
def Fix (b : Nat) (h : PHeap) (p : PV) (xs : List Int) : Prop := ∀ h', Keep b h h' → IntSl .i64 h' p xs
theorem Fix.now {b : Nat} {h : PHeap} {p : PV} {xs : List Int} (s : Fix b h p xs) : IntSl .i64 h p xs := s h (Keep.refl _ _)
theorem Fix.keep {b : Nat} {h h' : PHeap} {p : PV} {xs : List Int} (s : Fix b h p xs) (k : Keep b h h') : Fix b h' p xs := fun h2 k2 => s h2 (k.trans k2)
theorem IntSl.fix {h : PHeap} {p : PV} {xs : List Int} (s : IntSl .i64 h p xs) : Fix h.length h p xs := fun _ k => s.keep k
theorem Fix.mono {b b' : Nat} {h : PHeap} {p : PV} {xs : List Int} (s : Fix b h p xs) (hb : b ≤ b') : Fix b' h p xs := fun h2 k2 => s h2 (k2.mono hb)

end Go.Proofs.YtihlmjapddjjjaaDoor

/- The laws of chapter 2 over what the program's functions are asked to compute: the draws, the exact laws, and promise 9. -/
set_option maxRecDepth 20000
namespace Go.Proofs.YtihlmjapddjjjaaDoor
open Go Go.Ip G

def TabT (g : Nat → PV) (h : PHeap) : Prop := Tab64 g h
theorem TabT.keep {g : Nat → PV} {h h' : PHeap} (t : TabT g h) (k : Keep h.length h h') : TabT g h' := Tab64.keep t k
def TabOk (g : Nat → PV) (h : PHeap) : Prop := TabT g h
theorem TabOk.keep {g : Nat → PV} {h h' : PHeap} (t : TabOk g h) (k : Keep h.length h h') : TabOk g h' := TabT.keep t k

variable (g : Nat → PV) (lf n : Nat)

/-! ### the exact laws -/
/-! ### the draws -/
end Go.Proofs.YtihlmjapddjjjaaDoor

/- Promises 11, 12, 13 and 14 over what the program's functions are asked to compute. -/
set_option maxRecDepth 20000
namespace Go.Proofs.YtihlmjapddjjjaaDoor
open Go Go.Ip G

/-! ### more facts on positions -/
variable (g : Nat → PV) (lf n : Nat)

/-! ### promise 12 -/
end Go.Proofs.YtihlmjapddjjjaaDoor

/- Promises 13 and 14 over what the program's functions are asked to compute. -/
set_option maxRecDepth 20000
namespace Go.Proofs.YtihlmjapddjjjaaDoor
open Go Go.Ip G

/-! ### the cells that close a gap -/
variable (g : Nat → PV) (lf n : Nat)

/-! ### gaps of free boards, and mirrored -/
end Go.Proofs.YtihlmjapddjjjaaDoor

/- Promises 10 and 15 over what the program's functions are asked to compute. -/
set_option maxRecDepth 20000
namespace Go.Proofs.YtihlmjapddjjjaaDoor
open Go Go.Ip G

/-! ### lists of sets -/
/-! ### masks -/
/-! ### groups -/
variable (g : Nat → PV) (lf n : Nat)

theorem loadAt {xs : List Int} {p a : PV} {h : PHeap} {i : Nat} (hp : IntSl .i64 h p xs) (hi : i < xs.length) (ha : indexAddrP Tryd.prog 30 p (.int .i64 (i : Int)) = some a) : loadP Tryd.prog 3 a h = some (.int .i64 xs[i]) := by
  obtain ⟨a', ha', hla⟩ := hp.at' hi
  obtain rfl : a = a' := Option.some.inj (ha.symm.trans ha')
  exact hla

end Go.Proofs.YtihlmjapddjjjaaDoor

/- Promise 15 over what the program's functions are asked to compute. -/
set_option maxRecDepth 20000
namespace Go.Proofs.YtihlmjapddjjjaaDoor
open Go Go.Ip G

/-! ### sides -/
variable (g : Nat → PV) (lf n : Nat)

end Go.Proofs.YtihlmjapddjjjaaDoor

/- What chapter 3's functions tell of a position (moveL, playedL, winL, winCellsL, lineL), and what holds of them. No program text. -/
set_option maxRecDepth 20000
namespace Go.Proofs.YtihlmjapddjjjaaDoor
open Go Go.Ip G

/-! ### none -/
theorem playerB_of {P : Nat} (hP : P = 1 ∨ P = 2) : playerB (P : Int) = true := by rcases hP with rfl | rfl <;> rfl
theorem playerB_none {pl : Int} (h : 2 < pl) : playerB pl = false := by unfold playerB; exact decide_eq_false (by omega)
/-! ### sets -/
section
variable {R C : Nat} {xs : List Int} (hb : posB (R : Int) (C : Int) xs = true) (hS : Sides (R : Int) (C : Int) R C xs)
include hS
omit hS
theorem set_putA {P k : Nat} (hP : P = 1 ∨ P = 2) (hk : xs[k]? = some 0) : setL (xs.set k (P : Int)) 1 = putA P k (setL xs 1) ∧ setL (xs.set k (P : Int)) 2 = putB P k (setL xs 2) := by
  have hkl : k < xs.length := (List.getElem?_eq_some_iff.1 hk).1
  rcases hP with rfl | rfl
  · refine ⟨Nat.eq_of_testBit_eq fun j => ?_, Nat.eq_of_testBit_eq fun j => ?_⟩
    · show _ = (setL xs 1 ||| (1 <<< k)).testBit j
      rw [with_bit, Bool.eq_iff_iff, Bool.or_eq_true, decide_eq_true_iff, setL_bit, setL_bit, List.getElem?_set]
      by_cases e : k = j
      · subst e; simp [hkl]
      · rw [if_neg e]; exact ⟨.inl, fun h => h.resolve_right fun h2 => e h2.symm⟩
    · show _ = (setL xs 2).testBit j
      rw [Bool.eq_iff_iff, setL_bit, setL_bit, List.getElem?_set]
      by_cases e : k = j
      · subst e; rw [hk]; simp [hkl]
      · rw [if_neg e]
  · refine ⟨Nat.eq_of_testBit_eq fun j => ?_, Nat.eq_of_testBit_eq fun j => ?_⟩
    · show _ = (setL xs 1).testBit j
      rw [Bool.eq_iff_iff, setL_bit, setL_bit, List.getElem?_set]
      by_cases e : k = j
      · subst e; rw [hk]; simp [hkl]
      · rw [if_neg e]
    · show _ = (setL xs 2 ||| (1 <<< k)).testBit j
      rw [with_bit, Bool.eq_iff_iff, Bool.or_eq_true, decide_eq_true_iff, setL_bit, setL_bit, List.getElem?_set]
      by_cases e : k = j
      · subst e; simp [hkl]
      · rw [if_neg e]; exact ⟨.inl, fun h => h.resolve_right fun h2 => e h2.symm⟩
include hb
include hS
end

/-! ### turned, mirrored -/
section
variable {R C : Nat} {xs : List Int} (hb : posB (R : Int) (C : Int) xs = true) (hS : Sides (R : Int) (C : Int) R C xs)
include hb hS
end

/-! ### moves -/
/-! ### winning cells -/
section
variable {R C : Nat} {xs : List Int} (hb : posB (R : Int) (C : Int) xs = true) (hS : Sides (R : Int) (C : Int) R C xs)
include hb hS
omit hb hS
include hb hS
end

/-! ### played on -/
section
variable {R C : Nat} {xs : List Int} (hb : posB (R : Int) (C : Int) xs = true) (hS : Sides (R : Int) (C : Int) R C xs)
include hb hS
end

end Go.Proofs.YtihlmjapddjjjaaDoor

/- The model's table of who wins: each position has a place of its own in it. No program text. -/
set_option maxRecDepth 20000
namespace Go.Proofs.YtihlmjapddjjjaaDoor
open Go Go.Ip G

/-- The place of a position, from its first k cells: the same number as the model reckons. -/
def keyF (a b : Nat) : Nat → Nat
  | 0 => 0
  | k + 1 => 3 * keyF a b k + (a >>> k % 2) + 2 * (b >>> k % 2)

theorem digit_le {R C a b : Nat} (h : Pos R C a b) (k : Nat) : a >>> k % 2 + 2 * (b >>> k % 2) ≤ 2 := by
  have h1 := bit_iff a k
  have h2 := bit_iff b k
  rcases Nat.mod_two_eq_zero_or_one (a >>> k) with e1 | e1 <;> rcases Nat.mod_two_eq_zero_or_one (b >>> k) with e2 | e2
  · omega
  · omega
  · omega
  · exact (h.2.2 k (h1.1 e1) (h2.1 e2)).elim
theorem key_lt {R C a b : Nat} (h : Pos R C a b) : ∀ k, keyF a b k < 3 ^ k
  | 0 => Nat.zero_lt_one
  | k + 1 => by
    have ih := key_lt h k
    have hd := digit_le h k
    rw [keyF, Nat.pow_succ]; omega
theorem key_inj {R C a b a' b' : Nat} (h : Pos R C a b) (h' : Pos R C a' b') : ∀ k, keyF a b k = keyF a' b' k → ∀ i, i < k → a.testBit i = a'.testBit i ∧ b.testBit i = b'.testBit i
  | 0, _, i, hi => by omega
  | k + 1, he, i, hi => by
    have hd := digit_le h k
    have hd' := digit_le h' k
    rw [keyF, keyF] at he
    have e1 : keyF a b k = keyF a' b' k := by omega
    have e2 : a >>> k % 2 = a' >>> k % 2 ∧ b >>> k % 2 = b' >>> k % 2 := by
      have := Nat.mod_two_eq_zero_or_one (a >>> k); have := Nat.mod_two_eq_zero_or_one (a' >>> k); omega
    by_cases hik : i = k
    · subst hik
      have t : ∀ x y : Nat, x >>> i % 2 = y >>> i % 2 → x.testBit i = y.testBit i := fun x y e => by
        rw [Bool.eq_iff_iff, ← bit_iff, ← bit_iff, e]
      exact ⟨t _ _ e2.1, t _ _ e2.2⟩
    · exact key_inj h h' k e1 i (by omega)
theorem key_pos {R C a b a' b' : Nat} (h : Pos R C a b) (h' : Pos R C a' b') (he : keyF a b (R * C) = keyF a' b' (R * C)) : a = a' ∧ b = b' := by
  have hk := key_inj h h' _ he
  have t : ∀ x y : Nat, x < 2 ^ (R * C) → y < 2 ^ (R * C) → (∀ i, i < R * C → x.testBit i = y.testBit i) → x = y := fun x y hx hy hxy => by
    apply Nat.eq_of_testBit_eq
    intro j
    by_cases hj : j < R * C
    · exact hxy j hj
    · have e1 : x.testBit j = false := Nat.testBit_lt_two_pow (Nat.lt_of_lt_of_le hx (Nat.pow_le_pow_right (by decide) (by omega)))
      have e2 : y.testBit j = false := Nat.testBit_lt_two_pow (Nat.lt_of_lt_of_le hy (Nat.pow_le_pow_right (by decide) (by omega)))
      rw [e1, e2]
  exact ⟨t _ _ h.1 h'.1 fun i hi => (hk i hi).1, t _ _ h.2.1 h'.2.1 fun i hi => (hk i hi).2⟩

theorem pow3_le {n : Nat} (h : n ≤ 9) : 3 ^ n ≤ 19683 := Nat.pow_le_pow_right (n := 3) (by decide) h

def keyN (R C a b t : Nat) : Nat := 2 * keyF a b (R * C) + (t - 1)
/-- What the table holds: nothing, or who wins. -/
def Inv (R C : Nat) (T : List Int) : Prop := T.length = 2 * 3 ^ (R * C) ∧ ∀ a b t, Pos R C a b → (t = 1 ∨ t = 2) → T[keyN R C a b t]? = some 0 ∨ T[keyN R C a b t]? = some ((winN R C a b t : Nat) : Int)

theorem keyN_lt {R C a b t : Nat} (h : Pos R C a b) (ht : t = 1 ∨ t = 2) : keyN R C a b t < 2 * 3 ^ (R * C) := by
  have := key_lt h (R * C); unfold keyN; omega
theorem Inv.new (R C : Nat) : Inv R C (List.replicate (2 * 3 ^ (R * C)) 0) := by
  refine ⟨List.length_replicate, fun a b t h ht => .inl ?_⟩
  rw [List.getElem?_replicate, if_pos (keyN_lt h ht)]
theorem Inv.put {R C a b t : Nat} {T : List Int} (hi : Inv R C T) (h : Pos R C a b) (ht : t = 1 ∨ t = 2) : Inv R C (T.set (keyN R C a b t) ((winN R C a b t : Nat) : Int)) := by
  refine ⟨by rw [List.length_set]; exact hi.1, fun a' b' t' h' ht' => ?_⟩
  rw [List.getElem?_set]
  by_cases e : keyN R C a b t = keyN R C a' b' t'
  · right
    rw [if_pos e, if_pos (by rw [hi.1]; exact keyN_lt h ht)]
    unfold keyN at e
    have e1 : keyF a b (R * C) = keyF a' b' (R * C) := by omega
    have e2 : t = t' := by omega
    obtain ⟨rfl, rfl⟩ := key_pos h h' e1
    rw [e2]
  · rw [if_neg e]; exact hi.2 a' b' t' h' ht'
theorem Inv.get {R C a b t : Nat} {T : List Int} (hi : Inv R C T) (h : Pos R C a b) (ht : t = 1 ∨ t = 2) : ∃ hl : keyN R C a b t < T.length, T[keyN R C a b t] = 0 ∨ T[keyN R C a b t] = ((winN R C a b t : Nat) : Int) := by
  have hl : keyN R C a b t < T.length := by rw [hi.1]; exact keyN_lt h ht
  refine ⟨hl, ?_⟩
  have := hi.2 a b t h ht
  rw [List.getElem?_eq_getElem hl] at this
  exact this.imp Option.some.inj Option.some.inj

end Go.Proofs.YtihlmjapddjjjaaDoor

/- Nets as lists, and the model's table of a game in which both take cells. No program text. -/
set_option maxRecDepth 20000
namespace Go.Proofs.YtihlmjapddjjjaaDoor
open Go Go.Ip G

theorem gdigit_le {n a b : Nat} (h : gPos n a b) (k : Nat) : a >>> k % 2 + 2 * (b >>> k % 2) ≤ 2 := by
  have h1 := bit_iff a k
  have h2 := bit_iff b k
  rcases Nat.mod_two_eq_zero_or_one (a >>> k) with e1 | e1 <;> rcases Nat.mod_two_eq_zero_or_one (b >>> k) with e2 | e2
  · omega
  · omega
  · omega
  · exact (h.2.2 k (h1.1 e1) (h2.1 e2)).elim
theorem gkey_lt {n a b : Nat} (h : gPos n a b) : ∀ k, keyF a b k < 3 ^ k
  | 0 => Nat.zero_lt_one
  | k + 1 => by
    have ih := gkey_lt h k
    have hd := gdigit_le h k
    rw [keyF, Nat.pow_succ]; omega
theorem gkey_inj {n a b a' b' : Nat} (h : gPos n a b) (h' : gPos n a' b') : ∀ k, keyF a b k = keyF a' b' k → ∀ i, i < k → a.testBit i = a'.testBit i ∧ b.testBit i = b'.testBit i
  | 0, _, i, hi => by omega
  | k + 1, he, i, hi => by
    have hd := gdigit_le h k
    have hd' := gdigit_le h' k
    rw [keyF, keyF] at he
    have e1 : keyF a b k = keyF a' b' k := by omega
    have e2 : a >>> k % 2 = a' >>> k % 2 ∧ b >>> k % 2 = b' >>> k % 2 := by
      have := Nat.mod_two_eq_zero_or_one (a >>> k); have := Nat.mod_two_eq_zero_or_one (a' >>> k); omega
    by_cases hik : i = k
    · subst hik
      have t : ∀ x y : Nat, x >>> i % 2 = y >>> i % 2 → x.testBit i = y.testBit i := fun x y e => by
        rw [Bool.eq_iff_iff, ← bit_iff, ← bit_iff, e]
      exact ⟨t _ _ e2.1, t _ _ e2.2⟩
    · exact gkey_inj h h' k e1 i (by omega)
theorem gkey_pos {n a b a' b' : Nat} (h : gPos n a b) (h' : gPos n a' b') (he : keyF a b (n) = keyF a' b' (n)) : a = a' ∧ b = b' := by
  have hk := gkey_inj h h' _ he
  have t : ∀ x y : Nat, x < 2 ^ (n) → y < 2 ^ (n) → (∀ i, i < n → x.testBit i = y.testBit i) → x = y := fun x y hx hy hxy => by
    apply Nat.eq_of_testBit_eq
    intro j
    by_cases hj : j < n
    · exact hxy j hj
    · have e1 : x.testBit j = false := Nat.testBit_lt_two_pow (Nat.lt_of_lt_of_le hx (Nat.pow_le_pow_right (by decide) (by omega)))
      have e2 : y.testBit j = false := Nat.testBit_lt_two_pow (Nat.lt_of_lt_of_le hy (Nat.pow_le_pow_right (by decide) (by omega)))
      rw [e1, e2]
  exact ⟨t _ _ h.1 h'.1 fun i hi => (hk i hi).1, t _ _ h.2.1 h'.2.1 fun i hi => (hk i hi).2⟩


def gkeyN (n a b t : Nat) : Nat := 2 * keyF a b (n) + (t - 1)
/-- What the table holds: nothing, or who wins. -/
def GInv (n : Nat) (J1 J2 : Nat → Bool) (T : List Int) : Prop := T.length = 2 * 3 ^ (n) ∧ ∀ a b t, gPos n a b → (t = 1 ∨ t = 2) → T[gkeyN n a b t]? = some 0 ∨ T[gkeyN n a b t]? = some ((gWin n J1 J2 a b t : Nat) : Int)

theorem gkeyN_lt {n a b t : Nat} (h : gPos n a b) (ht : t = 1 ∨ t = 2) : gkeyN n a b t < 2 * 3 ^ (n) := by
  have := gkey_lt h (n); unfold gkeyN; omega
theorem GInv.new (n : Nat) (J1 J2 : Nat → Bool) : GInv n J1 J2 (List.replicate (2 * 3 ^ (n)) 0) := by
  refine ⟨List.length_replicate, fun a b t h ht => .inl ?_⟩
  rw [List.getElem?_replicate, if_pos (gkeyN_lt h ht)]
theorem GInv.put {n a b t : Nat} {J1 J2 : Nat → Bool} {T : List Int} (hi : GInv n J1 J2 T) (h : gPos n a b) (ht : t = 1 ∨ t = 2) : GInv n J1 J2 (T.set (gkeyN n a b t) ((gWin n J1 J2 a b t : Nat) : Int)) := by
  refine ⟨by rw [List.length_set]; exact hi.1, fun a' b' t' h' ht' => ?_⟩
  rw [List.getElem?_set]
  by_cases e : gkeyN n a b t = gkeyN n a' b' t'
  · right
    rw [if_pos e, if_pos (by rw [hi.1]; exact gkeyN_lt h ht)]
    unfold gkeyN at e
    have e1 : keyF a b (n) = keyF a' b' (n) := by omega
    have e2 : t = t' := by omega
    obtain ⟨rfl, rfl⟩ := gkey_pos h h' e1
    rw [e2]
  · rw [if_neg e]; exact hi.2 a' b' t' h' ht'
theorem GInv.get {n a b t : Nat} {J1 J2 : Nat → Bool} {T : List Int} (hi : GInv n J1 J2 T) (h : gPos n a b) (ht : t = 1 ∨ t = 2) : ∃ hl : gkeyN n a b t < T.length, T[gkeyN n a b t] = 0 ∨ T[gkeyN n a b t] = ((gWin n J1 J2 a b t : Nat) : Int) := by
  have hl : gkeyN n a b t < T.length := by rw [hi.1]; exact gkeyN_lt h ht
  refine ⟨hl, ?_⟩
  have := hi.2 a b t h ht
  rw [List.getElem?_eq_getElem hl] at this
  exact this.imp Option.some.inj Option.some.inj

/-- A winning move among the first k cells. -/
def gMoveTo (n : Nat) (J1 J2 : Nat → Bool) (a b t k : Nat) : Bool := (List.range k).any fun k => !(a ||| b).testBit k && decide (gWin n J1 J2 (putA t k a) (putB t k b) (3 - t) = t)
theorem gMoveTo_succ (n : Nat) (J1 J2 : Nat → Bool) (a b t k : Nat) : gMoveTo n J1 J2 a b t (k + 1) = (gMoveTo n J1 J2 a b t k || (!(a ||| b).testBit k && decide (gWin n J1 J2 (putA t k a) (putB t k b) (3 - t) = t))) := by
  unfold gMoveTo; rw [List.range_succ, List.any_append]; simp
theorem gMoveTo_mono {n a b t k : Nat} {J1 J2 : Nat → Bool} (hk : k ≤ n) (h : gMoveTo n J1 J2 a b t k = true) : gMove n J1 J2 a b t = true := by
  unfold gMoveTo at h
  rw [List.any_eq_true] at h
  obtain ⟨x, hx, hh⟩ := h
  unfold gMove
  rw [List.any_eq_true]
  exact ⟨x, List.mem_range.2 (by have := List.mem_range.1 hx; omega), hh⟩

/-! ### nets as lists -/
def castW (vs : List (Nat × Nat)) : List (Int × Int) := vs.map fun w => ((w.1 : Int), (w.2 : Int))
def natW (ws : List (Int × Int)) : List (Nat × Nat) := ws.map fun w => (w.1.toNat, w.2.toNat)
theorem castW_length (vs : List (Nat × Nat)) : (castW vs).length = vs.length := List.length_map ..
theorem natW_length (ws : List (Int × Int)) : (natW ws).length = ws.length := List.length_map ..
theorem castW_get {vs : List (Nat × Nat)} {i : Nat} (hi : i < (castW vs).length) (hi' : i < vs.length) : (castW vs)[i] = ((vs[i].1 : Int), (vs[i].2 : Int)) := by simp [castW]
/-- A wire between two different nodes. -/
def goodW (nodes : Int) (w : Int × Int) : Bool := decide (0 ≤ w.1 ∧ w.1 < nodes ∧ 0 ≤ w.2 ∧ w.2 < nodes ∧ w.1 ≠ w.2)
def wiresB (nodes : Int) (ws : List (Int × Int)) : Bool := ws.all (goodW nodes) && (decide (2 ≤ nodes ∧ nodes ≤ 5) && decide (ws.length ≤ 8))
theorem wires_of {nodes : Int} {ws : List (Int × Int)} (h : wiresB nodes ws = true) : ∃ N : Nat, nodes = (N : Int) ∧ ws = castW (natW ws) ∧ NetN N (natW ws) := by
  unfold wiresB at h
  rw [Bool.and_eq_true, Bool.and_eq_true, decide_eq_true_eq, decide_eq_true_eq] at h
  obtain ⟨h1, h2, h3⟩ := h
  obtain ⟨N, rfl⟩ := Int.eq_ofNat_of_zero_le (show 0 ≤ nodes by omega)
  have hg : ∀ w ∈ ws, 0 ≤ w.1 ∧ w.1 < (N : Int) ∧ 0 ≤ w.2 ∧ w.2 < (N : Int) ∧ w.1 ≠ w.2 := fun w hw => of_decide_eq_true (List.all_eq_true.1 h1 w hw)
  refine ⟨N, rfl, ?_, by omega, by omega, by rw [natW_length]; exact h3, fun w hw => ?_⟩
  · symm
    unfold castW natW
    rw [List.map_map]
    refine (List.map_congr_left (g := id) fun w hw => ?_).trans (List.map_id _)
    obtain ⟨a, b⟩ := w
    have := hg _ hw
    show (((a.toNat : Nat) : Int), ((b.toNat : Nat) : Int)) = (a, b)
    rw [Int.toNat_of_nonneg this.1, Int.toNat_of_nonneg this.2.2.1]
  · unfold natW at hw
    rw [List.mem_map] at hw
    obtain ⟨x, hx, rfl⟩ := hw
    have := hg x hx
    refine ⟨?_, ?_, fun e => ?_⟩
    · show x.1.toNat < N; omega
    · show x.2.toNat < N; omega
    · have e' : x.1.toNat = x.2.toNat := e
      omega
/-- Who has won, by the sets of both. -/
def doneN (vs : List (Nat × Nat)) (a b : Nat) : Nat := if linkW vs a = true then 1 else if cutW vs b = true then 2 else 0
theorem all_minus {n b : Nat} (hb : b < 2 ^ n) : minusN (2 ^ n - 1) b = 2 ^ n - 1 - b := by
  apply Nat.eq_of_testBit_eq
  intro j
  rw [minusN_bit, Nat.sub_sub, Nat.add_comm 1 b, Nat.testBit_two_pow_sub_succ hb, Nat.testBit_two_pow_sub_one]
def linksL (nodes : Int) (ws : List (Int × Int)) (set : Int) : Bool := wiresB nodes ws && decide (0 ≤ set ∧ set < ((2 ^ ws.length : Nat) : Int)) && linkW (natW ws) set.toNat
def ownersB (nodes : Int) (ws : List (Int × Int)) (os : List Int) : Bool := os.all contentB && (wiresB nodes ws && decide (os.length = ws.length))
def wonL (nodes : Int) (ws : List (Int × Int)) (os : List Int) : Int := if ownersB nodes ws os = true then ((doneN (natW ws) (setL os 1) (setL os 2) : Nat) : Int) else 0
def wwinL (nodes : Int) (ws : List (Int × Int)) (os : List Int) (t : Int) : Int := if (ownersB nodes ws os && playerB t) = true then ((gWin ws.length (linkW (natW ws)) (cutW (natW ws)) (setL os 1) (setL os 2) t.toNat : Nat) : Int) else 0
/-- The free wires that win. -/
def wtakeB (nodes : Int) (ws : List (Int × Int)) (os : List Int) (pl : Int) (k : Nat) : Bool := ownersB nodes ws os && playerB pl && decide (wonL nodes ws os = 0) && decide (os.getD k 5 = 0) && decide (wwinL nodes ws (os.set k pl) (3 - pl) = pl)
def wtakeL (nodes : Int) (ws : List (Int × Int)) (os : List Int) (pl : Int) : List Int := ((List.range os.length).filter (wtakeB nodes ws os pl)).map fun k : Nat => (k : Int)
end Go.Proofs.YtihlmjapddjjjaaDoor

/- Slices of wires (pairs of integers) on the interpreter's heap: how they are read, made, written and appended to. -/
set_option maxRecDepth 20000
namespace Go.Proofs.YtihlmjapddjjjaaDoor
open Go Go.Ip G

/-- The cells of a list of wires. -/
def wc : List (Int × Int) → List PV
  | [] => []
  | w :: l => .int .i64 w.1 :: .int .i64 w.2 :: wc l
theorem wc_length : ∀ ws, (wc ws).length = 2 * ws.length
  | [] => rfl
  | w :: l => by rw [wc, List.length_cons, List.length_cons, wc_length l, List.length_cons]; omega
theorem wc_append : ∀ a b, wc (a ++ b) = wc a ++ wc b
  | [], _ => rfl
  | w :: l, b => by rw [List.cons_append, wc, wc, wc_append l b]; rfl
theorem wc_at : ∀ (ws : List (Int × Int)) (i : Nat) (hi : i < ws.length), (wc ws)[i * 2]? = some (.int .i64 ws[i].1) ∧ (wc ws)[i * 2 + 1]? = some (.int .i64 ws[i].2)
  | [], _, h => by simp at h
  | w :: l, 0, _ => ⟨rfl, rfl⟩
  | w :: l, i + 1, h => by
    have := wc_at l i (by simpa using h)
    rw [wc, show (i + 1) * 2 = i * 2 + 1 + 1 by omega]
    exact this
theorem wc_set0 : ∀ (ws : List (Int × Int)) (i : Nat) (x : Int) (hi : i < ws.length), (wc ws).set (i * 2) (.int .i64 x) = wc (ws.set i (x, ws[i].2))
  | [], _, _, h => by simp at h
  | w :: l, 0, _, _ => rfl
  | w :: l, i + 1, x, h => by
    have := wc_set0 l i x (by simpa using h)
    rw [wc, show (i + 1) * 2 = i * 2 + 1 + 1 by omega, List.set_cons_succ, List.set_cons_succ, this]
    rfl
theorem wc_set1 : ∀ (ws : List (Int × Int)) (i : Nat) (x : Int) (hi : i < ws.length), (wc ws).set (i * 2 + 1) (.int .i64 x) = wc (ws.set i (ws[i].1, x))
  | [], _, _, h => by simp at h
  | w :: l, 0, _, _ => rfl
  | w :: l, i + 1, x, h => by
    have := wc_set1 l i x (by simpa using h)
    rw [wc, show (i + 1) * 2 + 1 = i * 2 + 1 + 1 + 1 by omega, List.set_cons_succ, List.set_cons_succ, this]
    rfl

/-- A slice of wires. -/
def WSl (h : PHeap) (p : PV) (ws : List (Int × Int)) : Prop :=
  (p = .nilsl ∧ ws = []) ∨ ∃ id off, p = .sl id off ws.length ∧ (off = 0 ∨ ws ≠ []) ∧ ∀ i x, (wc ws)[i]? = some x → (cellsAt h id)[off + i]? = some x
theorem WSl.keep {h h' : PHeap} {p : PV} {ws : List (Int × Int)} (s : WSl h p ws) (hk : Keep h.length h h') : WSl h' p ws := by
  rcases s with s | ⟨id, off, hp, hz, hc⟩
  · exact .inl s
  · exact .inr ⟨id, off, hp, hz, fun i x hx => by rw [cellsAt_keep hk (lt_of_cell (hc i x hx))]; exact hc i x hx⟩
theorem WSl.plain1 {h : PHeap} {p : PV} {ws : List (Int × Int)} (s : WSl h p ws) : plain1 p p = true := by
  rcases s with ⟨rfl, _⟩ | ⟨id, off, rfl, hz, _⟩
  · rfl
  · have h0 : off = 0 ∨ 0 < ws.length := hz.imp (fun e => e) fun e => List.length_pos_iff.2 e
    simp only [Ip.plain1, decide_true, Bool.true_and, Bool.or_eq_true, decide_eq_true_eq]
    exact h0
/-- One that the call itself made, from object n on. -/
def OwnW (n : Nat) (h : PHeap) (p : PV) (ws : List (Int × Int)) : Prop :=
  (p = .nilsl ∧ ws = []) ∨ ∃ id, n ≤ id ∧ p = .sl id 0 ws.length ∧ h[id]? = some (.own 2 (wc ws))
theorem OwnW.sl {n : Nat} {h : PHeap} {p : PV} {ws : List (Int × Int)} (s : OwnW n h p ws) : WSl h p ws := by
  rcases s with s | ⟨id, _, hp, ho⟩
  · exact .inl s
  · refine .inr ⟨id, 0, hp, .inl rfl, fun i x hx => ?_⟩
    simp [cellsAt, ho, PObj.get, hx]
theorem OwnW.mono {n m : Nat} {h : PHeap} {p : PV} {ws : List (Int × Int)} (s : OwnW n h p ws) (hm : m ≤ n) : OwnW m h p ws := by
  rcases s with s | ⟨id, h1, h2⟩
  · exact .inl s
  · exact .inr ⟨id, by omega, h2⟩
theorem OwnW.keep {n : Nat} {h h' : PHeap} {p : PV} {ws : List (Int × Int)} (s : OwnW n h p ws) (hk : Keep h.length h h') : OwnW n h' p ws := by
  rcases s with s | ⟨id, h1, h2, h3⟩
  · exact .inl s
  · exact .inr ⟨id, h1, h2, by rw [hk.2 id (List.getElem?_eq_some_iff.1 h3).1]; exact h3⟩
theorem OwnW.nil (n : Nat) (h : PHeap) : OwnW n h .nilsl [] := .inl ⟨rfl, rfl⟩
/-- A list of wires that whatever changes behind mark b leaves as it is. -/
def FixW (b : Nat) (h : PHeap) (p : PV) (ws : List (Int × Int)) : Prop := ∀ h', Keep b h h' → WSl h' p ws
theorem FixW.now {b : Nat} {h : PHeap} {p : PV} {ws : List (Int × Int)} (s : FixW b h p ws) : WSl h p ws := s h (Keep.refl _ _)
theorem FixW.keep {b : Nat} {h h' : PHeap} {p : PV} {ws : List (Int × Int)} (s : FixW b h p ws) (k : Keep b h h') : FixW b h' p ws := fun h2 k2 => s h2 (k.trans k2)
theorem WSl.fix {h : PHeap} {p : PV} {ws : List (Int × Int)} (s : WSl h p ws) : FixW h.length h p ws := fun _ k => s.keep k
theorem FixW.mono {b b' : Nat} {h : PHeap} {p : PV} {ws : List (Int × Int)} (s : FixW b h p ws) (hb : b ≤ b') : FixW b' h p ws := fun h2 k2 => s h2 (k2.mono hb)
theorem FixW.get {b : Nat} {h h' : PHeap} {p : PV} {ws : List (Int × Int)} (s : FixW b h p ws) (k : Keep b h h') : WSl h' p ws := s h' k

theorem twS : Tryd.prog.underlying 23 = some (.slice 52) := by kernel_rfl
theorem twSize : sizeT Tryd.prog 52 = some 2 := by kernel_rfl
theorem twAgg : isAggT Tryd.prog 52 = some true := by kernel_rfl
theorem twElem : elemT Tryd.prog 23 = some 52 := by kernel_rfl
theorem twZero : zeroCellsT Tryd.prog 52 = some [.int .i64 0, .int .i64 0] := by kernel_rfl
theorem twSmall : smallT Tryd.prog 52 = true := by kernel_rfl
theorem twB (a b : Int) : buildP Tryd.prog 52 [(0, .int .i64 a), (1, .int .i64 b)] = some (.agg [.int .i64 a, .int .i64 b]) := by kernel_rfl

theorem twFA (id off : Nat) : fieldAddrP Tryd.prog 52 (.ptr id off) 0 = some (.ptr id (off + 0)) := by kernel_rfl
theorem twFB (id off : Nat) : fieldAddrP Tryd.prog 52 (.ptr id off) 1 = some (.ptr id (off + 1)) := by kernel_rfl

section
variable {Q : PV → PHeap → Prop} {h : PHeap} {p : PV} {ws : List (Int × Int)}
theorem WSl.len (s : WSl h p ws) : lenP Tryd.prog 23 p = some (.int .i64 ws.length) := by
  rcases s with ⟨rfl, rfl⟩ | ⟨id, off, rfl, hz, hc⟩ <;> simp [lenP, twS]
/-- A wire's place, and what is read there. -/
theorem WSl.at (s : WSl h p ws) {i : Nat} (hi : i < ws.length) : ∃ id off, indexAddrP Tryd.prog 23 p (.int .i64 (i : Int)) = some (.ptr id off) ∧
    loadP Tryd.prog 52 (.ptr id off) h = some (.agg [.int .i64 ws[i].1, .int .i64 ws[i].2]) ∧
    loadP Tryd.prog 3 (.ptr id (off + 0)) h = some (.int .i64 ws[i].1) ∧ loadP Tryd.prog 3 (.ptr id (off + 1)) h = some (.int .i64 ws[i].2) := by
  rcases s with ⟨rfl, rfl⟩ | ⟨id, off, rfl, hz, hc⟩
  · simp at hi
  · obtain ⟨h0, h1⟩ := wc_at ws i hi
    have c0 := hc _ _ h0
    have c1 := hc _ _ h1
    refine ⟨id, off + i * 2, ?_, ?_, ?_, ?_⟩
    · simp [indexAddrP, twS, twSize, hi]
    · simp only [loadP, twAgg, twSize]
      have hl := (List.getElem?_eq_some_iff.1 c1).1
      rw [if_pos (by omega)]
      congr 2
      obtain ⟨_, c0⟩ := List.getElem?_eq_some_iff.1 c0
      obtain ⟨_, c1⟩ := List.getElem?_eq_some_iff.1 c1
      rw [List.drop_eq_getElem_cons (by omega), List.drop_eq_getElem_cons (by omega)]
      simp only [List.take_succ_cons, List.take_zero]
      rw [c0]
      congr 2
    · simp only [loadP, tyAgg, Nat.add_zero]; exact c0
    · simp only [loadP, tyAgg, Nat.add_assoc]; exact c1
theorem wfa0 {id off : Nat} {f : PV → Res} (hf : W (f (.ptr id (off + 0))) Q) : W ((fieldAddrP Tryd.prog 52 (.ptr id off) 0).bind f) Q := wbd (twFA id off) hf
theorem wfa1 {id off : Nat} {f : PV → Res} (hf : W (f (.ptr id (off + 1))) Q) : W ((fieldAddrP Tryd.prog 52 (.ptr id off) 1).bind f) Q := wbd (twFB id off) hf
theorem wbw {a b : Int} {f : PV → Res} (hf : W (f (.agg [.int .i64 a, .int .i64 b])) Q) : W ((buildP Tryd.prog 52 [(0, .int .i64 a), (1, .int .i64 b)]).bind f) Q := wbd (twB a b) hf
theorem wresW {n : Nat} (s : OwnW n h p ws) {f : PV → Res} (hf : W (f p) Q) : W ((resV p).bind f) Q := by
  rcases s with ⟨rfl, rfl⟩ | ⟨id, _, rfl, _⟩ <;> exact hf
/-- A wire of its own: an object of two cells. -/
def AtW (h : PHeap) (id : Nat) (a b : Int) : Prop := h[id]? = some (.own 1 [.int .i64 a, .int .i64 b])
theorem AtW.lt {id : Nat} {a b : Int} (s : AtW h id a b) : id < h.length := (List.getElem?_eq_some_iff.1 s).1
theorem AtW.keep {h' : PHeap} {id : Nat} {a b : Int} (s : AtW h id a b) (k : Keep h.length h h') : AtW h' id a b := by unfold AtW; rw [k.2 id s.lt]; exact s
theorem AtW.l0 {id : Nat} {a b : Int} (s : AtW h id a b) : loadP Tryd.prog 3 (.ptr id (0 + 0)) h = some (.int .i64 a) := by
  simp only [loadP, tyAgg, cellsAt]; rw [show h[id]? = _ from s]; rfl
theorem AtW.l1 {id : Nat} {a b : Int} (s : AtW h id a b) : loadP Tryd.prog 3 (.ptr id (0 + 1)) h = some (.int .i64 b) := by
  simp only [loadP, tyAgg, cellsAt]; rw [show h[id]? = _ from s]; rfl
theorem AtW.all {id : Nat} {a b : Int} (s : AtW h id a b) : loadP Tryd.prog 52 (.ptr id 0) h = some (.agg [.int .i64 a, .int .i64 b]) := by
  have hc : cellsAt h id = [.int .i64 a, .int .i64 b] := by unfold cellsAt; rw [show h[id]? = _ from s]; rfl
  simp only [loadP, twAgg, twSize, hc]; rfl
theorem walW {F : PV × PHeap → Res} (hf : ∀ h' id, AtW h' id 0 0 → Keep h.length h h' → h.length ≤ id → W (F (.ptr id 0, h')) Q) : W ((allocP Tryd.prog 52 h).bind F) Q := by
  have : allocP Tryd.prog 52 h = some (.ptr h.length 0, h ++ [.own 1 [.int .i64 0, .int .i64 0]]) := by unfold allocP; rw [twZero]; rfl
  exact wbd this (hf _ _ (by unfold AtW; simp) (Keep.append _ _ _ (Nat.le_refl _)) (Nat.le_refl _))
/-- The whole wire is written. -/
theorem wstW {id n : Nat} {a b x y : Int} (s : AtW h id x y) (hn : n ≤ id) {F : PHeap → Res} (hf : ∀ h', AtW h' id a b → Keep n h h' → h'.length = h.length → W (F h') Q) : W ((storeP Tryd.prog 52 (.ptr id 0) (.agg [.int .i64 a, .int .i64 b]) h).bind F) Q := by
  have hl := s.lt
  have : storeP Tryd.prog 52 (.ptr id 0) (.agg [.int .i64 a, .int .i64 b]) h = some (h.set id (.own 1 [.int .i64 a, .int .i64 b])) := by
    simp only [storeP]; rw [show h[id]? = _ from s, twSize]; rfl
  exact wbd this (hf _ (by unfold AtW; rw [List.getElem?_set_self hl]) (Keep.set _ _ _ _ hn) (by simp))
/-- A wire of a slice is written: whole, or one of its ends. -/
theorem OwnW.store {n : Nat} (s : OwnW n h p ws) {i : Nat} (hi : i < ws.length) : ∃ id, n ≤ id ∧ indexAddrP Tryd.prog 23 p (.int .i64 (i : Int)) = some (.ptr id (i * 2)) ∧
    (∀ a b, ∃ h', storeP Tryd.prog 52 (.ptr id (i * 2)) (.agg [.int .i64 a, .int .i64 b]) h = some h' ∧ OwnW n h' p (ws.set i (a, b)) ∧ Keep n h h' ∧ h'.length = h.length) ∧
    (∀ a, ∃ h', storeP Tryd.prog 3 (.ptr id (i * 2 + 0)) (.int .i64 a) h = some h' ∧ OwnW n h' p (ws.set i (a, ws[i].2)) ∧ Keep n h h' ∧ h'.length = h.length) ∧
    (∀ b, ∃ h', storeP Tryd.prog 3 (.ptr id (i * 2 + 1)) (.int .i64 b) h = some h' ∧ OwnW n h' p (ws.set i (ws[i].1, b)) ∧ Keep n h h' ∧ h'.length = h.length) := by
  rcases s with ⟨rfl, rfl⟩ | ⟨id, h1, rfl, h3⟩
  · simp at hi
  · have hid : id < h.length := (List.getElem?_eq_some_iff.1 h3).1
    have hwl := wc_length ws
    refine ⟨id, h1, by simp [indexAddrP, twS, twSize, hi], fun a b => ?_, fun a => ?_, fun b => ?_⟩
    · refine ⟨h.set id (.own 2 (wc (ws.set i (a, b)))), ?_, .inr ⟨id, h1, by simp, by rw [List.getElem?_set_self hid]⟩, Keep.set _ _ _ _ h1, by simp⟩
      have e1 := wc_set0 ws i a hi
      have e2 := wc_set1 (ws.set i (a, ws[i].2)) i b (by rw [List.length_set]; exact hi)
      rw [← e1, List.getElem_set_self, List.set_set] at e2
      simp only [storeP, h3, twSize]
      show (if 2 = 2 ∧ i * 2 + 2 ≤ (wc ws).length then some (h.set id (.own 2 (setCells (wc ws) (i * 2) [.int .i64 a, .int .i64 b]))) else none) = _
      rw [if_pos ⟨rfl, by omega⟩]
      simp only [setCells]
      rw [e2]
    · refine ⟨h.set id (.own 2 (wc (ws.set i (a, ws[i].2)))), ?_, .inr ⟨id, h1, by simp, by rw [List.getElem?_set_self hid]⟩, Keep.set _ _ _ _ h1, by simp⟩
      simp only [storeP, h3, tySize]
      show (if 1 = 1 ∧ i * 2 + 0 + 1 ≤ (wc ws).length then some (h.set id (.own 2 (setCells (wc ws) (i * 2 + 0) [.int .i64 a]))) else none) = _
      rw [if_pos ⟨rfl, by omega⟩]
      simp only [setCells, Nat.add_zero]
      rw [wc_set0 ws i a hi]
    · refine ⟨h.set id (.own 2 (wc (ws.set i (ws[i].1, b)))), ?_, .inr ⟨id, h1, by simp, by rw [List.getElem?_set_self hid]⟩, Keep.set _ _ _ _ h1, by simp⟩
      simp only [storeP, h3, tySize]
      show (if 1 = 1 ∧ i * 2 + 1 + 1 ≤ (wc ws).length then some (h.set id (.own 2 (setCells (wc ws) (i * 2 + 1) [.int .i64 b]))) else none) = _
      rw [if_pos ⟨rfl, by omega⟩]
      simp only [setCells]
      rw [wc_set1 ws i b hi]
theorem wemptyW {F : PV × PHeap → Res} (hf : ∀ p h', OwnW h.length h' p [] → Keep h.length h h' → W (F (p, h')) Q) : W ((buildSliceP Tryd.prog 23 0 [] h).bind F) Q := by
  refine wbd (v := (.sl h.length 0 0, h ++ [.own 2 []])) ?_ (hf _ _ (.inr ⟨h.length, Nat.le_refl _, rfl, by simp [wc]⟩) (Keep.append _ _ _ (Nat.le_refl _)))
  simp [buildSliceP, twElem, twSize, twZero, repeatCells, fillP]
/-- One wire is appended. -/
theorem wapW {n : Nat} (s : OwnW n h p ws) (hn : n ≤ h.length) {a b : Int} (hl : ws.length + 1 ≤ 2 ^ 36) {F : PV × PHeap → Res}
    (hf : ∀ p' h', OwnW n h' p' (ws ++ [(a, b)]) → Keep n h h' → W (F (p', h')) Q) :
    W ((buildSliceP Tryd.prog 23 1 [(0, .agg [.int .i64 a, .int .i64 b])] h).bind fun v => (appendP Tryd.prog 23 23 p v.1 v.2).bind F) Q := by
  have hb : buildSliceP Tryd.prog 23 1 [(0, .agg [.int .i64 a, .int .i64 b])] h = some (.sl h.length 0 1, h ++ [.own 2 [.int .i64 a, .int .i64 b]]) := by
    simp [buildSliceP, twElem, twSize, twZero, repeatCells, fillP, PV.cells, PV.oneCell, setCells]
  have hsrc : srcP (h ++ [.own 2 [.int .i64 a, .int .i64 b]]) 2 (.sl h.length 0 1) = some (1, [.int .i64 a, .int .i64 b]) := by
    simp [srcP, cellsAt, PObj.get]
  refine wbd hb ?_
  rcases s with ⟨rfl, rfl⟩ | ⟨id, h1, rfl, h3⟩
  · refine wbd (v := (.sl (h.length + 1) 0 1, h ++ [.own 2 [.int .i64 a, .int .i64 b]] ++ [.own 2 [.int .i64 a, .int .i64 b]])) ?_ (hf _ _ (.inr ⟨h.length + 1, by omega, rfl, ?_⟩) ?_)
    · simp [appendP, twElem, twSize, twSmall, hsrc]
    · rw [List.getElem?_append_right (by simp)]; simp [wc]
    · rw [List.append_assoc]; exact Keep.append _ _ _ hn
  · have hid : id < h.length := (List.getElem?_eq_some_iff.1 h3).1
    have h3' : (h ++ [PObj.own 2 [.int .i64 a, .int .i64 b]])[id]? = some (.own 2 (wc ws)) := by rw [List.getElem?_append_left hid]; exact h3
    refine wbd (v := (.sl (h.length + 1) 0 (ws.length + 1), ((h ++ [PObj.own 2 [.int .i64 a, .int .i64 b]]).set id .dead ++ [PObj.own 2 (wc ws ++ [.int .i64 a, .int .i64 b])]))) ?_ (hf _ _ (.inr ⟨h.length + 1, by omega, by simp, ?_⟩) ?_)
    · have := wc_length ws
      simp [appendP, twElem, twSize, twSmall, hsrc, h3', hl, this, Nat.mul_comm]
    · rw [List.getElem?_append_right (by simp)]; simp [wc_append, wc]
    · exact ((Keep.append n h _ hn).trans (Keep.set n _ id .dead h1)).trans (Keep.append _ _ _ (by simp; omega))
end

end Go.Proofs.YtihlmjapddjjjaaDoor

/- The model's chapter 3: what MoveOk, Played, WinnerOf, WinningCells and LinePlayed of it compute. -/
set_option maxRecDepth 20000
namespace Go.Proofs.YtihlmjapddjjjaaDoor
open Go Go.Ip G

variable (g : Nat → PV) (lf n : Nat)

theorem other_W (N : Nat) (hN : 1 ≤ N) (h : PHeap) {T : Nat} (hT : T = 1 ∨ T = 2) : CL g lf N fn_spec_l1Other [.int .i64 (T : Int)] h = some (.int .i64 ((3 - T : Nat) : Int), h) := by
  have := l1Other_N g lf N hN h (x := (T : Int)) (by rcases hT with rfl | rfl <;> rfl)
  rw [swap_player hT] at this; exact this

/-! ### the solver -/
end Go.Proofs.YtihlmjapddjjjaaDoor

/- The model's chapter 9, first part: nets, what is come to, links, owners and who has won. -/
set_option maxRecDepth 20000
namespace Go.Proofs.YtihlmjapddjjjaaDoor
open Go Go.Ip G

theorem f_shrU (a : Nat) : binP Tryd.prog .shr 3 (.int .i64 (a : Int)) (.int .u64 1) = some (.int .i64 ((a / 2 : Nat) : Int)) := by
  have := f_shr a 1 (by omega)
  rw [Nat.shiftRight_eq_div_pow] at this
  exact this
section
variable {Q : PV → PHeap → Prop} {x : Nat} {f : PV → Res}
theorem wshrU (hf : W (f (.int .i64 ((x / 2 : Nat) : Int))) Q) : W ((binP Tryd.prog .shr 3 (.int .i64 (x : Int)) (.int .u64 1)).bind f) Q := wbd (f_shrU x) hf
end
theorem bit_one (x : Nat) : x / 2 % 2 = 1 ↔ x.testBit 1 = true := by
  have := bit_iff x 1
  rw [Nat.shiftRight_eq_div_pow] at this
  exact this
theorem bit_one0 {x : Nat} (h : x.testBit 1 = false) : x / 2 % 2 = 0 := by
  have := bit_one x
  rw [h] at this
  have h2 : ¬ x / 2 % 2 = 1 := fun e => by cases this.1 e
  omega
theorem bit_zero {x k : Nat} (h : x.testBit k = false) : x >>> k % 2 = 0 := by
  have := bit_iff x k
  rw [h] at this
  have h2 : ¬ x >>> k % 2 = 1 := fun e => by cases this.1 e
  omega
theorem bit_same {x a b : Nat} : x >>> a % 2 = x >>> b % 2 ↔ x.testBit a = x.testBit b := by
  cases e1 : x.testBit a with
  | true =>
    rw [(bit_iff x a).2 e1]
    cases e2 : x.testBit b with
    | true => rw [(bit_iff x b).2 e2]; simp
    | false => rw [bit_zero e2]; simp
  | false =>
    rw [bit_zero e1]
    cases e2 : x.testBit b with
    | true => rw [(bit_iff x b).2 e2]; simp
    | false => rw [bit_zero e2]; simp

variable (g : Nat → PV) (lf n : Nat)

theorem specWiresOk_calls {ws : List (Int × Int)} {p : PV} {h : PHeap} (N : Nat) (hN : 3 ≤ N) (nodes : Int) (hp : WSl h p ws) (hl : ws.length ≤ 2 ^ 35) (hf : ws.length < lf) :
    ∃ h', CL g lf N fn_spec_WiresOk [.int .i64 nodes, p] h = some (.bool (wiresB nodes ws), h') ∧ Keep h.length h h' := by
  obtain ⟨n, rfl⟩ : ∃ n, N = n + 1 := ⟨N - 1, by omega⟩
  have : W (CL g lf (n + 1) fn_spec_WiresOk [.int .i64 nodes, p] h) fun v h' => v = .bool (wiresB nodes ws) ∧ Keep h.length h h' := by
    rw [spec_WiresOk.call_eq]
    unfold spec_WiresOk.main
    simp only [env_lf]
    refine loopW (fun m s => ∃ (k : Nat) (h1 : PHeap), s = spec_WiresOk.st0 (.int .i64 nodes) p (.int .i64 (k : Int)) h1 ∧ k + m = ws.length ∧ (ws.all (goodW nodes) = (ws.drop k).all (goodW nodes)) ∧ Keep h.length h h1) ?_ lf ws.length _ hf ⟨0, h, rfl, by omega, rfl, Keep.refl _ _⟩
    rintro n1 m s ⟨k, h1, rfl, hkm, hall, k1⟩ next
    have hp1 := hp.keep k1
    have hlen := hp1.len
    rw [spec_WiresOk.body0_eq]
    unfold spec_WiresOk.body0
    simp only [env_pick, env_alloc, env_load, env_store, env_bin, env_fieldAddr, env_indexAddr, env_len]
    cases m with
    | zero =>
      have hin : ∀ hh, CL g lf n fn_spec_l1In [.int .i64 nodes, .int .i64 2, .int .i64 5] hh = some (.bool (decide (2 ≤ nodes ∧ nodes ≤ 5)), hh) := fun hh => l1In_N g lf n (by omega) hh nodes 2 5
      have hin1 := hin h1
      rw [List.drop_eq_nil_of_le (by omega), List.all_nil] at hall
      cases hd : decide (2 ≤ nodes ∧ nodes ≤ 5) with
      | false =>
        rw [hd] at hin1
        repeat (first | with_reducible refine wF ?_ | with_reducible refine wg0 rfl ?_ | with_reducible refine wpF ?_ | with_reducible refine wsm ?_ | with_reducible refine wrB ?_ | with_reducible refine wbd (by assumption) ?_ | with_reducible refine wlssF (by omega) ?_ | rw [kLoop_exit] | rw [spec_WiresOk.after0_se0_0_1_5_10] | dsimp only | simp only [env_C, env_Y, env_g, env_lf, env_pick, env_alloc, env_box, env_build, env_buildSlice, env_load, env_store, env_ptr, env_bin, env_un, env_conv, env_make, env_slice, env_fieldAddr, env_field, env_indexAddr, env_index, env_extract, env_len, env_append, env_max, env_min, env_makeMap, env_lookup, env_update, env_clos, env_bstr])
        exact W.ret ⟨by unfold wiresB; rw [hall, hd]; rfl, k1⟩
      | true =>
        rw [hd] at hin1
        by_cases h8 : ws.length ≤ 8
        · repeat (first | with_reducible refine wF ?_ | with_reducible refine wg1 rfl ?_ | with_reducible refine wpT ?_ | with_reducible refine wpv ?_ | with_reducible refine wsm ?_ | with_reducible refine wrB ?_ | with_reducible refine wbd (by assumption) ?_ | with_reducible refine wlssF (by omega) ?_ | with_reducible refine wleqT (by omega) ?_ | rw [kLoop_exit] | rw [spec_WiresOk.after0_se0_0_1_5_10] | dsimp only | simp only [env_C, env_Y, env_g, env_lf, env_pick, env_alloc, env_box, env_build, env_buildSlice, env_load, env_store, env_ptr, env_bin, env_un, env_conv, env_make, env_slice, env_fieldAddr, env_field, env_indexAddr, env_index, env_extract, env_len, env_append, env_max, env_min, env_makeMap, env_lookup, env_update, env_clos, env_bstr])
          exact W.ret ⟨by unfold wiresB; rw [hall, hd, decide_eq_true h8]; rfl, k1⟩
        · repeat (first | with_reducible refine wF ?_ | with_reducible refine wg1 rfl ?_ | with_reducible refine wpT ?_ | with_reducible refine wpv ?_ | with_reducible refine wsm ?_ | with_reducible refine wrB ?_ | with_reducible refine wbd (by assumption) ?_ | with_reducible refine wlssF (by omega) ?_ | with_reducible refine wleqF (by omega) ?_ | rw [kLoop_exit] | rw [spec_WiresOk.after0_se0_0_1_5_10] | dsimp only | simp only [env_C, env_Y, env_g, env_lf, env_pick, env_alloc, env_box, env_build, env_buildSlice, env_load, env_store, env_ptr, env_bin, env_un, env_conv, env_make, env_slice, env_fieldAddr, env_field, env_indexAddr, env_index, env_extract, env_len, env_append, env_max, env_min, env_makeMap, env_lookup, env_update, env_clos, env_bstr])
          exact W.ret ⟨by unfold wiresB; rw [hall, hd, decide_eq_false h8]; rfl, k1⟩
    | succ m =>
      have hk : k < ws.length := by omega
      have hdx : ws.drop k = ws[k] :: ws.drop (k + 1) := List.drop_eq_getElem_cons hk
      obtain ⟨id, off, e0, l0, _, _⟩ := hp1.at hk
      obtain ⟨⟨A, B⟩, hw⟩ : ∃ w, w = ws[k] := ⟨_, rfl⟩
      rw [← hw] at l0 hdx
      rw [hdx, List.all_cons] at hall
      repeat (first | with_reducible refine wT ?_ | with_reducible refine wbd (by assumption) ?_ | (refine walW fun h2 i2 a2 k2 ii2 => ?_) | (refine wstW a2 ii2 fun h3 a3 k3 hl3 => ?_) | with_reducible refine wlssT (by omega) ?_ | dsimp only)
      have l3 := a3.l0
      have l4 := a3.l1
      have K3 : Keep h.length h h3 := k1.trans ((k2.trans k3).mono k1.1)
      have done : ∀ b, goodW nodes (A, B) = b → (b = false → W (spec_WiresOk.K0 (env g lf n) (kTop Tryd.prog Tryd.f10) .ret (spec_WiresOk.sr_4 (.bool false) h3)) fun v h' => v = .bool (wiresB nodes ws) ∧ Keep h.length h h') := by
        intro b hb hbf
        rw [hb, hbf, Bool.false_and] at hall
        rw [spec_WiresOk.K0_ret, spec_WiresOk.top_sr_4]
        repeat (first | with_reducible refine wrB ?_)
        exact W.ret ⟨by unfold wiresB; rw [hall]; rfl, K3⟩
      by_cases c1 : A < 0
      · repeat (first | with_reducible refine wT ?_ | with_reducible refine wg0 rfl ?_ | with_reducible refine wpT ?_ | with_reducible refine wsm ?_ | with_reducible refine wbd (by assumption) ?_ | (with_reducible refine wfa0 ?_) | with_reducible refine wlssT (by omega) ?_ | rw [kLoop_ret] | dsimp only)
        exact done false (decide_eq_false (fun hh => by have := hh.1; simp only at this; omega)) rfl
      · by_cases c2 : nodes ≤ A
        · repeat (first | with_reducible refine wT ?_ | with_reducible refine wg1 rfl ?_ | with_reducible refine wg0 rfl ?_ | with_reducible refine wpT ?_ | with_reducible refine wpF ?_ | with_reducible refine wpv ?_ | with_reducible refine wsm ?_ | with_reducible refine wbd (by assumption) ?_ | (with_reducible refine wfa0 ?_) | with_reducible refine wlssF (by omega) ?_ | with_reducible refine wgeqT (by omega) ?_ | rw [kLoop_ret] | dsimp only)
          exact done false (decide_eq_false (fun hh => by have := hh.2.1; simp only at this; omega)) rfl
        · by_cases c3 : B < 0
          · repeat (first | with_reducible refine wT ?_ | with_reducible refine wg1 rfl ?_ | with_reducible refine wg0 rfl ?_ | with_reducible refine wpT ?_ | with_reducible refine wpF ?_ | with_reducible refine wpv ?_ | with_reducible refine wsm ?_ | with_reducible refine wbd (by assumption) ?_ | (with_reducible refine wfa0 ?_) | (with_reducible refine wfa1 ?_) | with_reducible refine wlssT (by omega) ?_ | with_reducible refine wlssF (by omega) ?_ | with_reducible refine wgeqF (by omega) ?_ | rw [kLoop_ret] | dsimp only)
            exact done false (decide_eq_false (fun hh => by have := hh.2.2.1; simp only at this; omega)) rfl
          · by_cases c4 : nodes ≤ B
            · repeat (first | with_reducible refine wT ?_ | with_reducible refine wg1 rfl ?_ | with_reducible refine wg0 rfl ?_ | with_reducible refine wpT ?_ | with_reducible refine wpF ?_ | with_reducible refine wpv ?_ | with_reducible refine wsm ?_ | with_reducible refine wbd (by assumption) ?_ | (with_reducible refine wfa0 ?_) | (with_reducible refine wfa1 ?_) | with_reducible refine wlssF (by omega) ?_ | with_reducible refine wgeqT (by omega) ?_ | with_reducible refine wgeqF (by omega) ?_ | rw [kLoop_ret] | dsimp only)
              exact done false (decide_eq_false (fun hh => by have := hh.2.2.2.1; simp only at this; omega)) rfl
            · by_cases c5 : A = B
              · repeat (first | with_reducible refine wT ?_ | with_reducible refine wg1 rfl ?_ | with_reducible refine wpF ?_ | with_reducible refine wpv ?_ | with_reducible refine wsm ?_ | with_reducible refine wbd (by assumption) ?_ | (with_reducible refine wfa0 ?_) | (with_reducible refine wfa1 ?_) | with_reducible refine wlssF (by omega) ?_ | with_reducible refine wgeqF (by omega) ?_ | with_reducible refine weqlT (by omega) ?_ | rw [kLoop_ret] | dsimp only)
                exact done false (decide_eq_false (fun hh => hh.2.2.2.2 c5)) rfl
              · repeat (first | with_reducible refine wF ?_ | with_reducible refine wg1 rfl ?_ | with_reducible refine wpF ?_ | with_reducible refine wpv ?_ | with_reducible refine wsm ?_ | with_reducible refine wbd (by assumption) ?_ | (with_reducible refine wfa0 ?_) | (with_reducible refine wfa1 ?_) | with_reducible refine wadd1 (by omega) ?_ | with_reducible refine wlssF (by omega) ?_ | with_reducible refine wgeqF (by omega) ?_ | with_reducible refine weqlF (by omega) ?_ | dsimp only)
                refine next _ _ (Nat.lt_succ_self m) ⟨k + 1, h3, rfl, by omega, ?_, K3⟩
                have hg : goodW nodes (A, B) = true := decide_eq_true ⟨by simp only; omega, by simp only; omega, by simp only; omega, by simp only; omega, c5⟩
                rw [hall, hg, Bool.true_and]
  obtain ⟨_, h', e, rfl, k⟩ := this
  exact ⟨h', e, k⟩

/-! ### what is come to -/
theorem stepW_pass {set now0 : Nat} {vs : List (Nat × Nat)} {k now : Nat} (hk : k < vs.length) : stepW set (vs.drop k) k now = stepW set (vs.drop (k + 1)) (k + 1) (if (set.testBit k && (now.testBit vs[k].1 != now.testBit vs[k].2)) = true then now ||| (1 <<< vs[k].1) ||| (1 <<< vs[k].2) else now) := by
  rw [List.drop_eq_getElem_cons hk, stepW]
theorem reach_calls {nodes : Nat} {vs : List (Nat × Nat)} (hn : NetN nodes vs) {p : PV} {h : PHeap} (hp : WSl h p (castW vs)) {set u : Nat} (hset : set < 2 ^ 62) (hu : u < nodes) (N : Nat) (hN : 1 ≤ N) (hlf : 1000 < lf) :
    CL g lf N fn_spec_l9Reach [p, .int .i64 (set : Int), .int .i64 (u : Int)] h = some (.int .i64 ((reachW vs set u : Nat) : Int), h) := by
  obtain ⟨n, rfl⟩ : ∃ n, N = n + 1 := ⟨N - 1, by omega⟩
  have hlen := hp.len
  rw [castW_length] at hlen
  have hn5 := hn.2.1
  have hl8 := hn.2.2.1
  have h25 : 2 ^ nodes ≤ 2 ^ 5 := Nat.pow_le_pow_right (by decide) hn5
  have hone : 1 <<< u < 2 ^ nodes := by rw [Nat.one_shiftLeft]; exact Nat.pow_lt_pow_right (by decide) hu
  have hone1 : 1 ≤ 1 <<< u := by rw [Nat.one_shiftLeft]; exact Nat.one_le_two_pow
  have : W (CL g lf (n + 1) fn_spec_l9Reach [p, .int .i64 (set : Int), .int .i64 (u : Int)] h) fun v h' => v = .int .i64 ((reachW vs set u : Nat) : Int) ∧ h' = h := by
    rw [spec_l9Reach.call_eq]
    unfold spec_l9Reach.main
    simp only [env_lf, env_bin]
    repeat (first | with_reducible refine wshl (by omega) ?_)
    refine loopW (fun m s => ∃ (now : Nat) (again : Bool) (f : Nat), (s = spec_l9Reach.st0 p (.int .i64 (set : Int)) (.int .i64 (now : Int)) (.bool again) h ∨ ∃ x9 x16, s = spec_l9Reach.sn_0_1_7_8_9_16 p (.int .i64 (set : Int)) (.int .i64 (now : Int)) (.bool again) x9 x16 h) ∧ m = f + (if again = true then 1 else 0) ∧ now < 2 ^ nodes ∧ (again = true → 2 ^ nodes < now + f ∧ reachF vs set f now = reachW vs set u) ∧ (again = false → now = reachW vs set u)) ?_ lf 41 _ (by omega)
      ⟨1 <<< u, true, 40, .inl rfl, rfl, hone, fun _ => ⟨by omega, rfl⟩, fun hh => by cases hh⟩
    rintro n1 m s ⟨now, again, f, hs0, hm, hnow, hA, hB⟩ next
    have hbody : ∀ K, ev ((env g lf n).cx Tryd.prog spec_l9Reach.kl) spec_l9Reach.lp0 s K = spec_l9Reach.body0 (env g lf n) K p (.int .i64 (set : Int)) (.int .i64 (now : Int)) (.bool again) h := by
      intro K
      rcases hs0 with rfl | ⟨x9, x16, rfl⟩
      · exact spec_l9Reach.body0_eq _ _ _ _ _ _ _
      · exact spec_l9Reach.body0_sn_0_1_7_8_9_16 _ _ _ _ _ _ _ _ _
    rw [hbody]
    unfold spec_l9Reach.body0
    simp only [env_lf]
    cases again with
    | false =>
      repeat (first | with_reducible refine wF ?_ | with_reducible refine wrI ?_ | rw [kLoop_exit] | rw [spec_l9Reach.after0_se0_0_1_7_12])
      exact W.ret ⟨by rw [hB rfl], rfl⟩
    | true =>
      obtain ⟨hA1, hA2⟩ := hA rfl
      clear hB hA
      repeat (first | with_reducible refine wT ?_)
      refine loopW (fun m' s => ∃ (now' : Nat) (ag : Bool) (k : Nat), s = spec_l9Reach.st1 p (.int .i64 (set : Int)) (.int .i64 (now' : Int)) (.bool ag) (.int .i64 (k : Int)) h ∧ k + m' = vs.length ∧ now' < 2 ^ nodes ∧ stepW set (vs.drop k) k now' = stepW set vs 0 now ∧ (ag = false → now' = now) ∧ (ag = true → now < now')) ?_ lf vs.length _ (by omega)
        ⟨now, false, 0, rfl, by omega, hnow, rfl, fun _ => rfl, fun hh => by cases hh⟩
      rintro n2 m' s ⟨now', ag, k, rfl, hkm, hnow', hst, hg1, hg2⟩ next2
      rw [spec_l9Reach.body1_eq]
      unfold spec_l9Reach.body1
      simp only [env_pick, env_load, env_bin, env_fieldAddr, env_indexAddr, env_len]
      cases m' with
      | zero =>
        rw [List.drop_eq_nil_of_le (by omega), stepW] at hst
        obtain ⟨f, rfl⟩ : ∃ f', f = f' + 1 := ⟨f - 1, by omega⟩
        rw [reachF, ← hst] at hA2
        repeat (first | with_reducible refine wF ?_ | with_reducible refine wbd (by assumption) ?_ | with_reducible refine wlssF (by omega) ?_ | rw [kLoop_exit] | rw [spec_l9Reach.after1_se2_0_1_7_8_9_16])
        cases ag with
        | false =>
          rw [hg1 rfl, if_pos rfl] at hA2
          refine next _ _ ?_ ⟨now', false, f, .inr ⟨_, _, rfl⟩, rfl, hnow', (fun hh => by cases hh), fun _ => (hg1 rfl).trans hA2⟩
          simp only [if_true, Bool.false_eq_true, if_false] at hm ⊢; omega
        | true =>
          have := hg2 rfl
          rw [if_neg (by omega)] at hA2
          refine next _ _ ?_ ⟨now', true, f, .inr ⟨_, _, rfl⟩, rfl, hnow', fun _ => ⟨by omega, hA2⟩, fun hh => by cases hh⟩
          simp only [if_true] at hm ⊢; omega
      | succ m' =>
        have hk : k < vs.length := by omega
        have hkc : k < (castW vs).length := by rw [castW_length]; exact hk
        obtain ⟨id, off, e0, l0, l1, l2⟩ := hp.at hkc
        rw [castW_get hkc hk] at l0 l1 l2
        obtain ⟨⟨A, B⟩, hw⟩ : ∃ w, w = vs[k] := ⟨_, rfl⟩
        obtain ⟨b1, b2, b3⟩ := hn.2.2.2 vs[k] (List.getElem_mem hk)
        rw [stepW_pass (now0 := now) hk] at hst
        rw [← hw] at l0 l1 l2 b1 b2 b3 hst
        simp only at l0 l1 l2 b1 b2 b3 hst
        have oA : 1 <<< A < 2 ^ nodes := by rw [Nat.one_shiftLeft]; exact Nat.pow_lt_pow_right (by decide) b1
        have oB : 1 <<< B < 2 ^ nodes := by rw [Nat.one_shiftLeft]; exact Nat.pow_lt_pow_right (by decide) b2
        have hor1 : now' ||| 1 <<< A < 2 ^ nodes := Nat.or_lt_two_pow hnow' oA
        have hor2 : now' ||| 1 <<< A ||| 1 <<< B < 2 ^ nodes := Nat.or_lt_two_pow hor1 oB
        have stay : (set.testBit k && (now'.testBit A != now'.testBit B)) = false → W (kLoop (ev ((env g lf n).cx Tryd.prog spec_l9Reach.kl) spec_l9Reach.lp1) n2 (spec_l9Reach.K1 (env g lf n) (kLoop (ev ((env g lf n).cx Tryd.prog spec_l9Reach.kl) spec_l9Reach.lp0) n1 (spec_l9Reach.K0 (env g lf n) (kTop Tryd.prog Tryd.f31)))) .normal (spec_l9Reach.st1 p (.int .i64 (set : Int)) (.int .i64 (now' : Int)) (.bool ag) (.int .i64 ((k + 1 : Nat) : Int)) h)) fun v h' => v = .int .i64 ((reachW vs set u : Nat) : Int) ∧ h' = h := fun hh => by
          rw [if_neg (by rw [hh]; decide)] at hst
          exact next2 _ _ (Nat.lt_succ_self m') ⟨now', ag, k + 1, rfl, by omega, hnow', hst, hg1, hg2⟩
        cases hsb : set.testBit k with
        | false =>
          have z := bit_zero hsb
          repeat (first | with_reducible refine wT ?_ | with_reducible refine wg0 rfl ?_ | with_reducible refine wpT ?_ | with_reducible refine wsm ?_ | with_reducible refine wbd (by assumption) ?_ | with_reducible refine wadd1 (by omega) ?_ | with_reducible refine wrem2 ?_ | with_reducible refine wshr (by omega) ?_ | with_reducible refine wlssT (by omega) ?_ | with_reducible refine weqlT (by omega) ?_ | dsimp only)
          exact stay (by rw [hsb]; rfl)
        | true =>
          have z := (bit_iff set k).2 hsb
          by_cases hs : now'.testBit A = now'.testBit B
          · have z2 := bit_same.2 hs
            repeat (first | with_reducible refine wT ?_ | with_reducible refine wg1 rfl ?_ | with_reducible refine wpF ?_ | with_reducible refine wpv ?_ | with_reducible refine wsm ?_ | with_reducible refine wbd (by assumption) ?_ | (with_reducible refine wfa0 ?_) | (with_reducible refine wfa1 ?_) | with_reducible refine wadd1 (by omega) ?_ | with_reducible refine wrem2 ?_ | with_reducible refine wshr (by omega) ?_ | with_reducible refine wlssT (by omega) ?_ | with_reducible refine weqlT (by omega) ?_ | with_reducible refine weqlF (by omega) ?_ | dsimp only)
            exact stay (by rw [hsb, hs]; simp)
          · have z2 : ¬ now' >>> A % 2 = now' >>> B % 2 := fun e => hs (bit_same.1 e)
            rw [if_pos (by rw [hsb, Bool.true_and, bne_iff_ne]; exact hs)] at hst
            have hlt : now' < now' ||| 1 <<< A ||| 1 <<< B := by
              have hle : now' ≤ now' ||| 1 <<< A ||| 1 <<< B := Nat.le_trans Nat.left_le_or Nat.left_le_or
              have hne : now' ≠ now' ||| 1 <<< A ||| 1 <<< B := fun e => by
                have t1 : now'.testBit A = true := by rw [e, Nat.testBit_or, Nat.testBit_or, one_bit]; simp
                have t2 : now'.testBit B = true := by rw [e, Nat.testBit_or, Nat.testBit_or, one_bit, one_bit]; simp
                exact hs (by rw [t1, t2])
              omega
            repeat (first | with_reducible refine wT ?_ | with_reducible refine wF ?_ | with_reducible refine wg1 rfl ?_ | with_reducible refine wpF ?_ | with_reducible refine wpv ?_ | with_reducible refine wsm ?_ | with_reducible refine wbd (by assumption) ?_ | (with_reducible refine wfa0 ?_) | (with_reducible refine wfa1 ?_) | with_reducible refine wadd1 (by omega) ?_ | with_reducible refine wrem2 ?_ | with_reducible refine wshl (by omega) ?_ | with_reducible refine wshr (by omega) ?_ | with_reducible refine wor (by omega) (by omega) ?_ | with_reducible refine wlssT (by omega) ?_ | with_reducible refine weqlF (by omega) ?_ | dsimp only)
            refine next2 _ _ (Nat.lt_succ_self m') ⟨_, true, k + 1, rfl, by omega, hor2, hst, (fun hh => by cases hh), fun _ => ?_⟩
            cases ag with
            | false => rw [← hg1 rfl]; exact hlt
            | true => have := hg2 rfl; omega
  obtain ⟨_, _, e, rfl, rfl⟩ := this
  exact e

theorem reachW_lt {nodes : Nat} {vs : List (Nat × Nat)} (hn : NetN nodes vs) {set u : Nat} (hu : u < nodes) : reachW vs set u < 2 ^ nodes := by
  refine Nat.lt_of_le_of_lt (sub_le (b := 2 ^ nodes - 1) fun j hj => ?_) (by have := Nat.two_pow_pos nodes; omega)
  rw [Nat.testBit_two_pow_sub_one]
  exact decide_eq_true (Conn.lt hn hu ((reach_bit hn hu j).1 hj))

/-! ### links, owners, who has won -/
theorem specLinks_calls {ws : List (Int × Int)} {p : PV} {h : PHeap} (N : Nat) (hN : 4 ≤ N) (nodes set : Int) (hp : WSl h p ws) (hl : ws.length ≤ 2 ^ 35) (hf : ws.length < lf) (hlf : 1000 < lf) :
    ∃ h', CL g lf N fn_spec_LinksEnds [.int .i64 nodes, p, .int .i64 set] h = some (.bool (linksL nodes ws set), h') ∧ Keep h.length h h' := by
  obtain ⟨n, rfl⟩ : ∃ n, N = n + 1 := ⟨N - 1, by omega⟩
  obtain ⟨h1, e1, k1⟩ := specWiresOk_calls g lf n (by omega) nodes hp hl hf
  have : W (CL g lf (n + 1) fn_spec_LinksEnds [.int .i64 nodes, p, .int .i64 set] h) fun v h' => v = .bool (linksL nodes ws set) ∧ Keep h.length h h' := by
    rw [spec_LinksEnds.call_eq]
    unfold spec_LinksEnds.main
    simp only [env_C, env_pick, env_bin, env_len]
    unfold linksL
    cases hb : wiresB nodes ws with
    | false =>
      rw [hb] at e1
      repeat (first | with_reducible refine wg0 rfl ?_ | with_reducible refine wpF ?_ | with_reducible refine wsm ?_ | with_reducible refine wrB ?_ | with_reducible refine wbd (by assumption) ?_ | dsimp only)
      exact W.ret ⟨rfl, k1⟩
    | true =>
      rw [hb] at e1
      obtain ⟨M, rfl, hws, hn⟩ := wires_of hb
      have hl8 : ws.length ≤ 8 := by have := hn.2.2.1; rwa [natW_length] at this
      have hp1 := hp.keep k1
      have hlen := hp1.len
      have hpw : (1 <<< ws.length : Nat) = 2 ^ ws.length := Nat.one_shiftLeft _
      have h28 : 2 ^ ws.length ≤ 2 ^ 8 := Nat.pow_le_pow_right (by decide) hl8
      have h20 := Nat.two_pow_pos ws.length
      have hin : CL g lf n fn_spec_l1In [.int .i64 set, .int .i64 0, .int .i64 ((2 ^ ws.length - 1 : Nat) : Int)] h1 = some (.bool (decide (0 ≤ set ∧ set ≤ ((2 ^ ws.length - 1 : Nat) : Int))), h1) := l1In_N g lf n (by omega) h1 set 0 _
      have hde : decide (0 ≤ set ∧ set ≤ ((2 ^ ws.length - 1 : Nat) : Int)) = decide (0 ≤ set ∧ set < ((2 ^ ws.length : Nat) : Int)) := decide_eq_decide.2 (by omega)
      rw [hde] at hin
      rw [Bool.true_and]
      cases hs : decide (0 ≤ set ∧ set < ((2 ^ ws.length : Nat) : Int)) with
      | false =>
        rw [hs] at hin
        repeat (first | with_reducible refine wg1 rfl ?_ | with_reducible refine wg0 rfl ?_ | with_reducible refine wpT ?_ | with_reducible refine wpF ?_ | with_reducible refine wpv ?_ | with_reducible refine wsm ?_ | with_reducible refine wrB ?_ | with_reducible refine wbd (by assumption) ?_ | (rw [hpw]) | with_reducible refine wsub1 (by omega) (by omega) ?_ | with_reducible refine wshl (by omega) ?_ | dsimp only)
        exact W.ret ⟨rfl, k1⟩
      | true =>
        rw [hs] at hin
        have hsb := of_decide_eq_true hs
        obtain ⟨S, rfl⟩ := Int.eq_ofNat_of_zero_le hsb.1
        have e2 : CL g lf n fn_spec_l9Reach [p, .int .i64 (S : Int), .int .i64 0] h1 = some (.int .i64 ((reachW (natW ws) S 0 : Nat) : Int), h1) := reach_calls g lf hn (u := 0) (hws ▸ hp1) (by omega) (by have := hn.1; omega) n (by omega) hlf
        have hlk : linkW (natW ws) (S : Int).toNat = (reachW (natW ws) S 0).testBit 1 := rfl
        rw [hlk, Bool.true_and]
        obtain ⟨X, hX⟩ : ∃ X, X = reachW (natW ws) S 0 := ⟨_, rfl⟩
        rw [← hX] at e2 ⊢
        cases ht : X.testBit 1 with
        | true =>
          have z := (bit_one X).2 ht
          repeat (first | with_reducible refine wg1 rfl ?_ | with_reducible refine wpT ?_ | with_reducible refine wpv ?_ | with_reducible refine wsm ?_ | with_reducible refine wrB ?_ | with_reducible refine wbd (by assumption) ?_ | (rw [hpw]) | (with_reducible refine wshrU ?_) | with_reducible refine wsub1 (by omega) (by omega) ?_ | with_reducible refine wrem2 ?_ | with_reducible refine wshl (by omega) ?_ | with_reducible refine weqlT (by omega) ?_ | dsimp only)
          exact W.ret ⟨rfl, k1⟩
        | false =>
          have z := bit_one0 ht
          repeat (first | with_reducible refine wg1 rfl ?_ | with_reducible refine wpT ?_ | with_reducible refine wpv ?_ | with_reducible refine wsm ?_ | with_reducible refine wrB ?_ | with_reducible refine wbd (by assumption) ?_ | (rw [hpw]) | (with_reducible refine wshrU ?_) | with_reducible refine wsub1 (by omega) (by omega) ?_ | with_reducible refine wrem2 ?_ | with_reducible refine wshl (by omega) ?_ | with_reducible refine weqlF (by omega) ?_ | dsimp only)
          exact W.ret ⟨rfl, k1⟩
  obtain ⟨_, h', e, rfl, k⟩ := this
  exact ⟨h', e, k⟩

theorem specOwners_calls {ws : List (Int × Int)} {os : List Int} {p po : PV} {h : PHeap} (N : Nat) (hN : 4 ≤ N) (nodes : Int) (hp : WSl h p ws) (hl : ws.length ≤ 2 ^ 35) (hf : ws.length < lf) (ho : IntSl .i64 h po os) (hol : os.length ≤ 2 ^ 35) (hof : os.length < lf) :
    ∃ h', CL g lf N fn_spec_OwnersOk [.int .i64 nodes, p, po] h = some (.bool (ownersB nodes ws os), h') ∧ Keep h.length h h' := by
  obtain ⟨n, rfl⟩ : ∃ n, N = n + 1 := ⟨N - 1, by omega⟩
  have hlo := ho.len'
  have : W (CL g lf (n + 1) fn_spec_OwnersOk [.int .i64 nodes, p, po] h) fun v h' => v = .bool (ownersB nodes ws os) ∧ Keep h.length h h' := by
    rw [spec_OwnersOk.call_eq]
    unfold spec_OwnersOk.main
    simp only [env_lf]
    refine loopW (fun m s => ∃ k : Nat, s = spec_OwnersOk.st0 (.int .i64 nodes) p po (.int .i64 (k : Int)) h ∧ k + m = os.length ∧ os.all contentB = (os.drop k).all contentB) ?_ lf os.length _ hof ⟨0, rfl, by omega, rfl⟩
    rintro n1 m s ⟨k, rfl, hkm, hall⟩ next
    rw [spec_OwnersOk.body0_eq]
    unfold spec_OwnersOk.body0
    simp only [env_C, env_load, env_bin, env_un, env_indexAddr, env_len]
    cases m with
    | zero =>
      rw [List.drop_eq_nil_of_le (by omega), List.all_nil] at hall
      obtain ⟨h1, e1, k1⟩ := specWiresOk_calls g lf n (by omega) nodes hp hl hf
      have hlen := (hp.keep k1).len
      unfold ownersB
      rw [hall, Bool.true_and]
      cases hb : wiresB nodes ws with
      | false =>
        rw [hb] at e1
        repeat (first | with_reducible refine wF ?_ | with_reducible refine wg0 rfl ?_ | with_reducible refine wpF ?_ | with_reducible refine wsm ?_ | with_reducible refine wrB ?_ | with_reducible refine wbd (by assumption) ?_ | with_reducible refine wlssF (by omega) ?_ | rw [kLoop_exit] | rw [spec_OwnersOk.after0_se0_0_1_2_7_11] | dsimp only | simp only [env_C, env_Y, env_g, env_lf, env_pick, env_alloc, env_box, env_build, env_buildSlice, env_load, env_store, env_ptr, env_bin, env_un, env_conv, env_make, env_slice, env_fieldAddr, env_field, env_indexAddr, env_index, env_extract, env_len, env_append, env_max, env_min, env_makeMap, env_lookup, env_update, env_clos, env_bstr])
        exact W.ret ⟨rfl, k1⟩
      | true =>
        rw [hb] at e1
        by_cases he : os.length = ws.length
        · rw [decide_eq_true he]
          repeat (first | with_reducible refine wF ?_ | with_reducible refine wg1 rfl ?_ | with_reducible refine wpT ?_ | with_reducible refine wpv ?_ | with_reducible refine wsm ?_ | with_reducible refine wrB ?_ | with_reducible refine wbd (by assumption) ?_ | with_reducible refine wlssF (by omega) ?_ | with_reducible refine weqlT (by omega) ?_ | rw [kLoop_exit] | rw [spec_OwnersOk.after0_se0_0_1_2_7_11] | dsimp only | simp only [env_C, env_Y, env_g, env_lf, env_pick, env_alloc, env_box, env_build, env_buildSlice, env_load, env_store, env_ptr, env_bin, env_un, env_conv, env_make, env_slice, env_fieldAddr, env_field, env_indexAddr, env_index, env_extract, env_len, env_append, env_max, env_min, env_makeMap, env_lookup, env_update, env_clos, env_bstr])
          exact W.ret ⟨rfl, k1⟩
        · rw [decide_eq_false he]
          repeat (first | with_reducible refine wF ?_ | with_reducible refine wg1 rfl ?_ | with_reducible refine wpT ?_ | with_reducible refine wpv ?_ | with_reducible refine wsm ?_ | with_reducible refine wrB ?_ | with_reducible refine wbd (by assumption) ?_ | with_reducible refine wlssF (by omega) ?_ | with_reducible refine weqlF (by omega) ?_ | rw [kLoop_exit] | rw [spec_OwnersOk.after0_se0_0_1_2_7_11] | dsimp only | simp only [env_C, env_Y, env_g, env_lf, env_pick, env_alloc, env_box, env_build, env_buildSlice, env_load, env_store, env_ptr, env_bin, env_un, env_conv, env_make, env_slice, env_fieldAddr, env_field, env_indexAddr, env_index, env_extract, env_len, env_append, env_max, env_min, env_makeMap, env_lookup, env_update, env_clos, env_bstr])
          exact W.ret ⟨rfl, k1⟩
    | succ m =>
      have hk : k < os.length := by omega
      have hdx : os.drop k = os[k] :: os.drop (k + 1) := List.drop_eq_getElem_cons hk
      rw [hdx, List.all_cons] at hall
      obtain ⟨a, ea, la⟩ := ho.at' hk
      have hin : CL g lf n fn_spec_l1In [.int .i64 os[k], .int .i64 0, .int .i64 2] h = some (.bool (contentB os[k]), h) := l1In_N g lf n (by omega) h os[k] 0 2
      cases hc : contentB os[k] with
      | true =>
        rw [hc] at hin hall
        repeat (first | with_reducible refine wT ?_ | with_reducible refine wF ?_ | with_reducible refine wnT ?_ | with_reducible refine wbd (by assumption) ?_ | with_reducible refine wadd1 (by omega) ?_ | with_reducible refine wlssT (by omega) ?_ | dsimp only)
        exact next _ _ (Nat.lt_succ_self m) ⟨k + 1, rfl, by omega, by rw [hall, Bool.true_and]⟩
      | false =>
        rw [hc] at hin hall
        repeat (first | with_reducible refine wT ?_ | with_reducible refine wnF ?_ | with_reducible refine wbd (by assumption) ?_ | with_reducible refine wlssT (by omega) ?_ | rw [kLoop_ret] | dsimp only)
        rw [spec_OwnersOk.K0_ret, spec_OwnersOk.top_sr_6]
        repeat (first | with_reducible refine wrB ?_)
        exact W.ret ⟨by unfold ownersB; rw [hall]; rfl, Keep.refl _ _⟩
  obtain ⟨_, h', e, rfl, k⟩ := this
  exact ⟨h', e, k⟩

theorem done_calls {nodes : Nat} {vs : List (Nat × Nat)} (hn : NetN nodes vs) {p : PV} {h : PHeap} (hp : WSl h p (castW vs)) {a b : Nat} (ha : a < 2 ^ vs.length) (hb : b < 2 ^ vs.length) (N : Nat) (hN : 2 ≤ N) (hlf : 1000 < lf) :
    CL g lf N fn_spec_l9Done [p, .int .i64 (a : Int), .int .i64 (b : Int)] h = some (.int .i64 ((doneN vs a b : Nat) : Int), h) := by
  obtain ⟨n, rfl⟩ : ∃ n, N = n + 1 := ⟨N - 1, by omega⟩
  have hlen := hp.len
  rw [castW_length] at hlen
  have hl8 := hn.2.2.1
  have hpw : (1 <<< vs.length : Nat) = 2 ^ vs.length := Nat.one_shiftLeft _
  have h28 : 2 ^ vs.length ≤ 2 ^ 8 := Nat.pow_le_pow_right (by decide) hl8
  have h20 := Nat.two_pow_pos vs.length
  have h0 : 0 < nodes := by have := hn.1; omega
  have e1 : CL g lf n fn_spec_l9Reach [p, .int .i64 (a : Int), .int .i64 0] h = some (.int .i64 ((reachW vs a 0 : Nat) : Int), h) := reach_calls g lf hn (u := 0) hp (by omega) h0 n (by omega) hlf
  have hmin := all_minus hb
  have e2 : CL g lf n fn_spec_l9Reach [p, .int .i64 ((minusN (2 ^ vs.length - 1) b : Nat) : Int), .int .i64 0] h = some (.int .i64 ((reachW vs (minusN (2 ^ vs.length - 1) b) 0 : Nat) : Int), h) := reach_calls g lf hn (u := 0) hp (by omega) h0 n (by omega) hlf
  have : W (CL g lf (n + 1) fn_spec_l9Done [p, .int .i64 (a : Int), .int .i64 (b : Int)] h) fun v h' => v = .int .i64 ((doneN vs a b : Nat) : Int) ∧ h' = h := by
    rw [spec_l9Done.call_eq]
    unfold spec_l9Done.main
    simp only [env_C, env_bin, env_len]
    unfold doneN cutW
    rw [← hmin]
    have hla : linkW vs a = (reachW vs a 0).testBit 1 := rfl
    have hlb : linkW vs (minusN (2 ^ vs.length - 1) b) = (reachW vs (minusN (2 ^ vs.length - 1) b) 0).testBit 1 := rfl
    rw [hla, hlb]
    obtain ⟨X, hX⟩ : ∃ X, X = reachW vs a 0 := ⟨_, rfl⟩
    obtain ⟨Y, hY⟩ : ∃ Y, Y = reachW vs (minusN (2 ^ vs.length - 1) b) 0 := ⟨_, rfl⟩
    rw [← hX] at e1 ⊢
    rw [← hY] at e2 ⊢
    cases ht : X.testBit 1 with
    | true =>
      have z := (bit_one X).2 ht
      repeat (first | with_reducible refine wT ?_ | with_reducible refine wrI ?_ | with_reducible refine wbd (by assumption) ?_ | (with_reducible refine wshrU ?_) | with_reducible refine wrem2 ?_ | with_reducible refine weqlT (by omega) ?_ | dsimp only | simp only [env_C, env_Y, env_g, env_lf, env_pick, env_alloc, env_box, env_build, env_buildSlice, env_load, env_store, env_ptr, env_bin, env_un, env_conv, env_make, env_slice, env_fieldAddr, env_field, env_indexAddr, env_index, env_extract, env_len, env_append, env_max, env_min, env_makeMap, env_lookup, env_update, env_clos, env_bstr])
      exact W.ret ⟨rfl, rfl⟩
    | false =>
      have z := bit_one0 ht
      cases ht2 : Y.testBit 1 with
      | true =>
        have z2 := (bit_one Y).2 ht2
        repeat (first | with_reducible refine wF ?_ | with_reducible refine wrI ?_ | with_reducible refine wbd (by assumption) ?_ | (rw [hpw]) | (with_reducible refine wshrU ?_) | with_reducible refine wsub1 (by omega) (by omega) ?_ | with_reducible refine wrem2 ?_ | with_reducible refine wshl (by omega) ?_ | with_reducible refine wandNot (by omega) (by omega) ?_ | with_reducible refine weqlF (by omega) ?_ | dsimp only)
        exact W.ret ⟨rfl, rfl⟩
      | false =>
        have z2 := bit_one0 ht2
        repeat (first | with_reducible refine wT ?_ | with_reducible refine wF ?_ | with_reducible refine wrI ?_ | with_reducible refine wbd (by assumption) ?_ | (rw [hpw]) | (with_reducible refine wshrU ?_) | with_reducible refine wsub1 (by omega) (by omega) ?_ | with_reducible refine wrem2 ?_ | with_reducible refine wshl (by omega) ?_ | with_reducible refine wandNot (by omega) (by omega) ?_ | with_reducible refine weqlT (by omega) ?_ | with_reducible refine weqlF (by omega) ?_ | dsimp only)
        exact W.ret ⟨rfl, rfl⟩
  obtain ⟨_, _, e, rfl, rfl⟩ := this
  exact e

theorem owners_of {nodes : Int} {ws : List (Int × Int)} {os : List Int} (h : ownersB nodes ws os = true) : os.all contentB = true ∧ wiresB nodes ws = true ∧ os.length = ws.length := by
  unfold ownersB at h
  rw [Bool.and_eq_true, Bool.and_eq_true, decide_eq_true_eq] at h
  exact h
theorem specWon_calls {ws : List (Int × Int)} {os : List Int} {p po : PV} {h : PHeap} (N : Nat) (hN : 5 ≤ N) (nodes : Int) (hp : WSl h p ws) (hl : ws.length ≤ 2 ^ 35) (hf : ws.length < lf) (ho : IntSl .i64 h po os) (hol : os.length ≤ 2 ^ 35) (hof : os.length < lf) (hlf : 1000 < lf) :
    ∃ h', CL g lf N fn_spec_WiresWon [.int .i64 nodes, p, po] h = some (.int .i64 (wonL nodes ws os), h') ∧ Keep h.length h h' := by
  obtain ⟨n, rfl⟩ : ∃ n, N = n + 1 := ⟨N - 1, by omega⟩
  obtain ⟨h1, e1, k1⟩ := specOwners_calls g lf n (by omega) nodes hp hl hf ho hol hof
  have : W (CL g lf (n + 1) fn_spec_WiresWon [.int .i64 nodes, p, po] h) fun v h' => v = .int .i64 (wonL nodes ws os) ∧ Keep h.length h h' := by
    rw [spec_WiresWon.call_eq]
    unfold spec_WiresWon.main
    simp only [env_C, env_un]
    unfold wonL
    cases hb : ownersB nodes ws os with
    | false =>
      rw [hb] at e1
      repeat (first | with_reducible refine wT ?_ | with_reducible refine wnF ?_ | with_reducible refine wrI ?_ | with_reducible refine wbd (by assumption) ?_ | dsimp only)
      exact W.ret ⟨rfl, k1⟩
    | true =>
      rw [hb] at e1
      obtain ⟨h1a, h1b, h1c⟩ := owners_of hb
      obtain ⟨M, rfl, hws, hn⟩ := wires_of h1b
      have hl8 : ws.length ≤ 8 := by have := hn.2.2.1; rwa [natW_length] at this
      have ho1 := ho.keep k1
      have e2 := l2Set_calls g lf 1 ho1 (by omega) n (by omega) (by omega)
      have e3 := l2Set_calls g lf 2 ho1 (by omega) n (by omega) (by omega)
      have e4 := done_calls g lf hn (hws ▸ hp.keep k1) (a := setL os 1) (b := setL os 2) (setL_lt 1 (by rw [natW_length]; omega)) (setL_lt 2 (by rw [natW_length]; omega)) n (by omega) hlf
      repeat (first | with_reducible refine wF ?_ | with_reducible refine wnT ?_ | with_reducible refine wrI ?_ | with_reducible refine wbd (by assumption) ?_ | dsimp only | simp only [env_C, env_Y, env_g, env_lf, env_pick, env_alloc, env_box, env_build, env_buildSlice, env_load, env_store, env_ptr, env_bin, env_un, env_conv, env_make, env_slice, env_fieldAddr, env_field, env_indexAddr, env_index, env_extract, env_len, env_append, env_max, env_min, env_makeMap, env_lookup, env_update, env_clos, env_bstr])
      exact W.ret ⟨rfl, k1⟩
  obtain ⟨_, h', e, rfl, k⟩ := this
  exact ⟨h', e, k⟩

end Go.Proofs.YtihlmjapddjjjaaDoor

/- The model's chapter 9, second part: who wins, which wires win, least links and cuts, the gap. -/
set_option maxRecDepth 20000
namespace Go.Proofs.YtihlmjapddjjjaaDoor
open Go Go.Ip G

variable (g : Nat → PV) (lf n : Nat)

theorem wsolve_W {nodes : Nat} {vs : List (Nat × Nat)} (hn : NetN nodes vs) (hlf : 1000 < lf) : ∀ (m a b t N : Nat) (T : List Int) (p pm : PV) (h : PHeap) (b0 : Nat), frN vs.length a b ≤ m → gPos vs.length a b → (t = 1 ∨ t = 2) → m + 5 ≤ N → FixW b0 h pm (castW vs) → OwnSl b0 h p T → b0 ≤ h.length → GInv vs.length (linkW vs) (cutW vs) T →
    W (CL g lf N fn_spec_l9Solve [pm, .int .i64 (a : Int), .int .i64 (b : Int), .int .i64 (t : Int), p] h) fun v h' => v = .int .i64 ((gWin vs.length (linkW vs) (cutW vs) a b t : Nat) : Int) ∧ ∃ T', OwnSl b0 h' p T' ∧ GInv vs.length (linkW vs) (cutW vs) T' ∧ Keep b0 h h' := by
  intro m
  induction m using Nat.strongRecOn with
  | _ m ih =>
  intro a b t N T p pm h b0 hm hp ht hN hpm ho hb0 hi
  obtain ⟨n, rfl⟩ : ∃ n, N = n + 1 := ⟨N - 1, by omega⟩
  have h9 := hn.2.2.1
  have h29 : 2 ^ vs.length ≤ 2 ^ 9 := Nat.pow_le_pow_right (by decide) (by omega)
  have l9 : a < 2 ^ 9 ∧ b < 2 ^ 9 := ⟨Nat.lt_of_lt_of_le hp.1 h29, Nat.lt_of_lt_of_le hp.2.1 h29⟩
  have hG := wire_game hn
  have hlenp := hpm.now.len
  rw [castW_length] at hlenp
  have e1 := done_calls g lf hn hpm.now hp.1 hp.2.1 n (by omega) hlf
  rw [spec_l9Solve.call_eq]
  unfold spec_l9Solve.main
  simp only [env_C, env_lf, env_bin]
  refine wbd e1 ?_
  cases j1 : linkW vs a with
  | true =>
    have hd : doneN vs a b = 1 := by unfold doneN; rw [j1]; rfl
    rw [hd]
    repeat (first | with_reducible refine wT ?_ | with_reducible refine wrI ?_ | with_reducible refine wneqT (by omega) ?_ | dsimp only)
    exact W.ret ⟨by rw [gw_first j1], T, ho, hi, Keep.refl _ _⟩
  | false =>
  cases j2 : cutW vs b with
  | true =>
    have hd : doneN vs a b = 2 := by unfold doneN; rw [j1, j2]; rfl
    rw [hd]
    repeat (first | with_reducible refine wT ?_ | with_reducible refine wrI ?_ | with_reducible refine wneqT (by omega) ?_ | dsimp only)
    exact W.ret ⟨by rw [gw_second hG hp j2], T, ho, hi, Keep.refl _ _⟩
  | false =>
  have hd : doneN vs a b = 0 := by unfold doneN; rw [j1, j2]; rfl
  rw [hd]
  repeat (first | with_reducible refine wF ?_ | with_reducible refine wneqF (by omega) ?_ | dsimp only)
  -- the key
  refine loopW (fun m s => ∃ (k : Nat) (key : Int), s = spec_l9Solve.st0 pm (.int .i64 (a : Int)) (.int .i64 (b : Int)) (.int .i64 (t : Int)) p (.int .i64 key) (.int .i64 (k : Int)) h ∧ k + m = vs.length ∧ key = (keyF a b k : Int)) ?_ lf (vs.length) _ (by omega) ⟨0, 0, rfl, by omega, rfl⟩
  rintro n1 m1 s ⟨k, key, rfl, hkm, hkey⟩ next
  have hk3 := gkey_lt hp k
  have hp3 := pow3_le (show k ≤ 9 by omega)
  rw [spec_l9Solve.body0_eq]
  unfold spec_l9Solve.body0
  simp only [env_bin, env_len]
  cases m1 with
  | succ m1 =>
    repeat (first | with_reducible refine wT ?_ | with_reducible refine wbd (by assumption) ?_ | with_reducible refine wadd1 (by omega) ?_ | with_reducible refine wrem2 ?_ | with_reducible refine wshr (by omega) ?_ | with_reducible refine wlssT (by omega) ?_ | with_reducible refine wadd (by omega) ?_ | with_reducible refine wmul (by omega) ?_)
    refine next _ _ (Nat.lt_succ_self m1) ⟨k + 1, _, rfl, by omega, ?_⟩
    rw [keyF]; omega
  | zero =>
    have hkR : k = vs.length := by omega
    subst hkR
    repeat (first | with_reducible refine wF ?_ | with_reducible refine wbd (by assumption) ?_ | with_reducible refine wlssF (by omega) ?_ | with_reducible refine wadd (by omega) ?_ | with_reducible refine wsub (by omega) ?_ | with_reducible refine wmul (by omega) ?_ | rw [kLoop_exit] | rw [spec_l9Solve.after0_se0_0_1_2_3_4_12_13_27] | simp only [env_C, env_Y, env_g, env_lf, env_pick, env_alloc, env_box, env_build, env_buildSlice, env_load, env_store, env_ptr, env_bin, env_un, env_conv, env_make, env_slice, env_fieldAddr, env_field, env_indexAddr, env_index, env_extract, env_len, env_append, env_max, env_min, env_makeMap, env_lookup, env_update, env_clos, env_bstr])
    have hkn : 2 * key + (t : Int) - 1 = ((gkeyN vs.length a b t : Nat) : Int) := by unfold gkeyN; omega
    rw [hkn]
    obtain ⟨hl, hT⟩ := hi.get hp ht
    refine wat ho.int hl fun ad had => ?_
    refine wbd had ?_
    have hwc := gw_cases (n := vs.length) (a := a) (b := b) (J1 := linkW vs) (J2 := cutW vs) ht
    refine wgtr (fun e => ?_) (fun e => ?_)
    · have hT' : T[gkeyN vs.length a b t] = ((gWin vs.length (linkW vs) (cutW vs) a b t : Nat) : Int) := by
        rcases hT with h0 | h0
        · omega
        · exact h0
      repeat (first | with_reducible refine wT ?_)
      refine wat ho.int hl fun ad had => ?_
      refine wbd had ?_
      rw [hT']
      repeat (first | with_reducible refine wrI ?_)
      exact W.ret ⟨rfl, T, ho, hi, Keep.refl _ _⟩
    · have e3 := other_W g lf n (by omega) h ht
      repeat (first | with_reducible refine wF ?_ | with_reducible refine wbd (by assumption) ?_ | dsimp only)
      obtain ⟨KEY, hKEY⟩ : ∃ x, x = gkeyN vs.length a b t := ⟨_, rfl⟩
      have hwo := gw_open (n := vs.length) (t := t) j1 j2
      have fin : ∀ (bst : Int) (k : Nat) (x : PV) (T2 : List Int) (h2 : PHeap), bst = ((gWin vs.length (linkW vs) (cutW vs) a b t : Nat) : Int) → OwnSl b0 h2 p T2 → GInv vs.length (linkW vs) (cutW vs) T2 → Keep b0 h h2 →
          W (spec_l9Solve.K1 (env g lf n) (kTop Tryd.prog Tryd.f54) (.exit 2) (spec_l9Solve.se2_0_1_2_3_4_12_14_15_67 pm (.int .i64 (a : Int)) (.int .i64 (b : Int)) (.int .i64 (t : Int)) p (.int .i64 (KEY : Int)) (.int .i64 bst) (.int .i64 (k : Int)) x h2))
            fun v h' => v = .int .i64 ((gWin vs.length (linkW vs) (cutW vs) a b t : Nat) : Int) ∧ ∃ T', OwnSl b0 h' p T' ∧ GInv vs.length (linkW vs) (cutW vs) T' ∧ Keep b0 h h' := by
        intro bst k x T2 h2 hbst o2 i2 k2
        rw [spec_l9Solve.after1_se2_0_1_2_3_4_12_14_15_67]
        simp only [env_indexAddr, env_store]
        obtain ⟨hl2, _⟩ := i2.get hp ht
        rw [← hKEY] at hl2
        refine wst o2 hl2 fun h3 o3 k3 l3 a3 e4 => ?_
        repeat (first | with_reducible refine wrI ?_)
        rw [hbst] at o3 ⊢
        rw [hKEY] at o3
        exact W.ret ⟨rfl, _, o3, i2.put hp ht, k2.trans k3⟩
      rw [← hKEY]
      refine loopW (fun m s => ∃ (k : Nat) (bst : Int) (T2 : List Int) (h2 : PHeap), s = spec_l9Solve.st1 pm (.int .i64 (a : Int)) (.int .i64 (b : Int)) (.int .i64 (t : Int)) p (.int .i64 (KEY : Int)) (.int .i64 bst) (.int .i64 (k : Int)) h2 ∧ k + m = vs.length ∧
        ((bst = ((3 - t : Nat) : Int) ∧ gMoveTo vs.length (linkW vs) (cutW vs) a b t k = false) ∨ (bst = (t : Int) ∧ gMove vs.length (linkW vs) (cutW vs) a b t = true)) ∧ OwnSl b0 h2 p T2 ∧ GInv vs.length (linkW vs) (cutW vs) T2 ∧ Keep b0 h h2) ?_ lf (vs.length) _ (by omega) ⟨0, _, T, h, rfl, by omega, .inl ⟨rfl, rfl⟩, ho, hi, Keep.refl _ _⟩
      rintro n2 m2 s ⟨k, bst, T2, h2, rfl, hkm2, hbst, o2, i2, k2⟩ next2
      have hpm2 := hpm.keep k2
      rw [spec_l9Solve.body1_eq]
      unfold spec_l9Solve.body1
      simp only [env_C, env_pick, env_bin, env_len]
      rcases hbst with ⟨hb1, hb2⟩ | ⟨hb1, hb2⟩
      · cases m2 with
        | zero =>
          repeat (first | with_reducible refine wF ?_ | with_reducible refine wg0 rfl ?_ | with_reducible refine wpF ?_ | with_reducible refine wsm ?_ | with_reducible refine wbd (by assumption) ?_ | with_reducible refine wlssF (by omega) ?_ | rw [kLoop_exit] | dsimp only)
          refine fin bst k _ T2 h2 ?_ o2 i2 k2
          have hkR : k = vs.length := by omega
          subst hkR
          have : gMove vs.length (linkW vs) (cutW vs) a b t = false := hb2
          rw [hwo, this, hb1]; rfl
        | succ m2 =>
          have hkl : k < vs.length := by omega
          have hne : ¬ bst = (t : Int) := by omega
          have hor : a ||| b < 2 ^ 9 := Nat.or_lt_two_pow l9.1 l9.2
          have hsl := shl_lt (show k < 9 by omega)
          have hto := gMoveTo_succ vs.length (linkW vs) (cutW vs) a b t k
          rw [hb2, Bool.false_or] at hto
          repeat (first | with_reducible refine wT ?_ | with_reducible refine wg1 rfl ?_ | with_reducible refine wpT ?_ | with_reducible refine wpv ?_ | with_reducible refine wsm ?_ | with_reducible refine wbd (by assumption) ?_ | with_reducible refine wrem2 ?_ | with_reducible refine wshr (by omega) ?_ | with_reducible refine wor (by omega) (by omega) ?_ | with_reducible refine wlssT (by omega) ?_ | with_reducible refine wneqT (by omega) ?_ | dsimp only)
          refine weql (fun e => ?_) (fun e => ?_)
          · have hbit := (bit_iff (a ||| b) k).1 (by omega)
            rw [hbit] at hto
            repeat (first | with_reducible refine wT ?_ | with_reducible refine wadd1 (by omega) ?_)
            exact next2 _ _ (Nat.lt_succ_self m2) ⟨k + 1, bst, T2, h2, rfl, by omega, .inl ⟨hb1, hto⟩, o2, i2, k2⟩
          · have hbit : (a ||| b).testBit k = false := by
              cases e2 : (a ||| b).testBit k with
              | false => rfl
              | true => exact (e (by rw [(bit_iff (a ||| b) k).2 e2]; rfl)).elim
            have hfr := fr_put (t := t) hkl hbit
            have hpp := hp.put (t := t) hkl hbit
            rw [hbit, Bool.not_false, Bool.true_and] at hto
            have hor2 : a ||| 1 <<< k < 2 ^ 9 := Nat.or_lt_two_pow l9.1 hsl
            have hor3 : b ||| 1 <<< k < 2 ^ 9 := Nat.or_lt_two_pow l9.2 hsl
            rcases ht with rfl | rfl
            · repeat (first | with_reducible refine wT ?_ | with_reducible refine wF ?_ | with_reducible refine wshl (by omega) ?_ | with_reducible refine wor (by omega) (by omega) ?_ | with_reducible refine weqlT (by omega) ?_)
              refine wcall (ih (m - 1) (by omega) (a ||| 1 <<< k) b 2 n T2 p pm h2 b0 (Nat.le_sub_one_of_lt (Nat.lt_of_lt_of_le hfr hm)) hpp (.inr rfl) (by omega) hpm2 o2 (Nat.le_trans hb0 k2.1) i2) fun v h3 ⟨hv, T3, o3, i3, k3⟩ => ?_
              subst hv
              refine weql (fun e => ?_) (fun e => ?_)
              · repeat (first | with_reducible refine wT ?_ | with_reducible refine wadd1 (by omega) ?_ | dsimp only)
                have hw : gWin vs.length (linkW vs) (cutW vs) (putA 1 k a) (putB 1 k b) (3 - 1) = 1 := Int.ofNat_inj.1 e
                rw [decide_eq_true hw] at hto
                exact next2 _ _ (Nat.lt_succ_self m2) ⟨k + 1, _, T3, h3, rfl, by omega, .inr ⟨rfl, gMoveTo_mono (by omega) hto⟩, o3, i3, k2.trans k3⟩
              · repeat (first | with_reducible refine wF ?_ | with_reducible refine wadd1 (by omega) ?_ | dsimp only)
                have hw : ¬ gWin vs.length (linkW vs) (cutW vs) (putA 1 k a) (putB 1 k b) (3 - 1) = 1 := fun hh => e (congrArg Int.ofNat hh)
                rw [decide_eq_false hw] at hto
                exact next2 _ _ (Nat.lt_succ_self m2) ⟨k + 1, bst, T3, h3, rfl, by omega, .inl ⟨hb1, hto⟩, o3, i3, k2.trans k3⟩
            · repeat (first | with_reducible refine wF ?_ | with_reducible refine wshl (by omega) ?_ | with_reducible refine wor (by omega) (by omega) ?_ | with_reducible refine weqlF (by omega) ?_)
              refine wcall (ih (m - 1) (by omega) a (b ||| 1 <<< k) 1 n T2 p pm h2 b0 (Nat.le_sub_one_of_lt (Nat.lt_of_lt_of_le hfr hm)) hpp (.inl rfl) (by omega) hpm2 o2 (Nat.le_trans hb0 k2.1) i2) fun v h3 ⟨hv, T3, o3, i3, k3⟩ => ?_
              subst hv
              refine weql (fun e => ?_) (fun e => ?_)
              · repeat (first | with_reducible refine wT ?_ | with_reducible refine wadd1 (by omega) ?_ | dsimp only)
                have hw : gWin vs.length (linkW vs) (cutW vs) (putA 2 k a) (putB 2 k b) (3 - 2) = 2 := Int.ofNat_inj.1 e
                rw [decide_eq_true hw] at hto
                exact next2 _ _ (Nat.lt_succ_self m2) ⟨k + 1, _, T3, h3, rfl, by omega, .inr ⟨rfl, gMoveTo_mono (by omega) hto⟩, o3, i3, k2.trans k3⟩
              · repeat (first | with_reducible refine wF ?_ | with_reducible refine wadd1 (by omega) ?_ | dsimp only)
                have hw : ¬ gWin vs.length (linkW vs) (cutW vs) (putA 2 k a) (putB 2 k b) (3 - 2) = 2 := fun hh => e (congrArg Int.ofNat hh)
                rw [decide_eq_false hw] at hto
                exact next2 _ _ (Nat.lt_succ_self m2) ⟨k + 1, bst, T3, h3, rfl, by omega, .inl ⟨hb1, hto⟩, o3, i3, k2.trans k3⟩
      · have hfin : bst = ((gWin vs.length (linkW vs) (cutW vs) a b t : Nat) : Int) := by rw [hwo, hb2, hb1]; rfl
        by_cases hkl : k < vs.length
        · repeat (first | with_reducible refine wF ?_ | with_reducible refine wg1 rfl ?_ | with_reducible refine wpT ?_ | with_reducible refine wpv ?_ | with_reducible refine wsm ?_ | with_reducible refine wbd (by assumption) ?_ | with_reducible refine wlssT (by omega) ?_ | with_reducible refine wneqF (by omega) ?_ | rw [kLoop_exit] | dsimp only)
          exact fin bst k _ T2 h2 hfin o2 i2 k2
        · repeat (first | with_reducible refine wF ?_ | with_reducible refine wg0 rfl ?_ | with_reducible refine wpF ?_ | with_reducible refine wsm ?_ | with_reducible refine wbd (by assumption) ?_ | with_reducible refine wlssF (by omega) ?_ | rw [kLoop_exit] | dsimp only)
          exact fin bst k _ T2 h2 hfin o2 i2 k2


theorem wtable_W {vs : List (Nat × Nat)} (h8 : vs.length ≤ 9) (J1 J2 : Nat → Bool) (hlf : 1000 < lf) (N : Nat) (hN : 1 ≤ N) (h : PHeap) :
    W (CL g lf N fn_spec_l3Table [.int .i64 (vs.length : Int)] h) fun v h' => ∃ T, OwnSl h.length h' v T ∧ GInv vs.length J1 J2 T ∧ Keep h.length h h' := by
  obtain ⟨n, rfl⟩ : ∃ n, N = n + 1 := ⟨N - 1, by omega⟩
  rw [spec_l3Table.call_eq]
  unfold spec_l3Table.main
  simp only [env_lf]
  refine loopW (fun m s => ∃ (k V : Nat), s = spec_l3Table.st0 (.int .i64 (vs.length : Int)) (.int .i64 (V : Int)) (.int .i64 (k : Int)) h ∧ k + m = vs.length ∧ V = 2 * 3 ^ k) ?_ lf (vs.length) _ (by omega) ⟨0, 2, rfl, by omega, rfl⟩
  rintro n1 m1 s ⟨k, V, rfl, hkm, hV⟩ next
  have hp3 := pow3_le (show k ≤ 9 by omega)
  rw [spec_l3Table.body0_eq]
  unfold spec_l3Table.body0
  simp only [env_bin]
  cases m1 with
  | succ m1 =>
    repeat (first | with_reducible refine wT ?_ | with_reducible refine wadd1 (by omega) ?_ | with_reducible refine wlssT (by omega) ?_ | with_reducible refine wmul (by omega) ?_)
    refine next _ _ (Nat.lt_succ_self m1) ⟨k + 1, V * 3, rfl, by omega, by rw [Nat.pow_succ]; omega⟩
  | zero =>
    have hkR : k = vs.length := by omega
    subst hkR
    subst hV
    repeat (first | with_reducible refine wF ?_ | with_reducible refine wlssF (by omega) ?_ | rw [kLoop_exit] | rw [spec_l3Table.after0_se0_0_3_4_7] | simp only [env_C, env_Y, env_g, env_lf, env_pick, env_alloc, env_box, env_build, env_buildSlice, env_load, env_store, env_ptr, env_bin, env_un, env_conv, env_make, env_slice, env_fieldAddr, env_field, env_indexAddr, env_index, env_extract, env_len, env_append, env_max, env_min, env_makeMap, env_lookup, env_update, env_clos, env_bstr])
    refine wmake (by omega) fun p h1 o1 k1 => ?_
    repeat (first | with_reducible refine wresO (by assumption) ?_ | dsimp only)
    exact W.ret ⟨_, o1, GInv.new vs.length J1 J2, k1⟩

theorem gpos_of {os : List Int} {m : Nat} (h : os.length = m) : gPos m (setL os 1) (setL os 2) := by
  refine ⟨setL_lt 1 (by omega), setL_lt 2 (by omega), fun j h1 h2 => ?_⟩
  rw [setL_bit] at h1 h2
  rw [h1] at h2
  exact absurd (Option.some.inj h2) (by decide)
theorem wwinner_W {nodes : Nat} {vs : List (Nat × Nat)} (hn : NetN nodes vs) {os : List Int} {p po : PV} {h : PHeap} (hp : WSl h p (castW vs)) (ho : IntSl .i64 h po os) (hol : os.length = vs.length) {T : Nat} (hT : T = 1 ∨ T = 2) (hlf : 1000 < lf) (N : Nat) (hN : 16 ≤ N) :
    ∃ h', CL g lf N fn_spec_l9Winner [p, po, .int .i64 (T : Int)] h = some (.int .i64 ((gWin vs.length (linkW vs) (cutW vs) (setL os 1) (setL os 2) T : Nat) : Int), h') ∧ Keep h.length h h' := by
  obtain ⟨n, rfl⟩ : ∃ n, N = n + 1 := ⟨N - 1, by omega⟩
  have h8 := hn.2.2.1
  have hlenp := hp.len
  rw [castW_length] at hlenp
  have e2 := l2Set_calls g lf 1 ho (by omega) n (by omega) (by omega)
  have e3 := l2Set_calls g lf 2 ho (by omega) n (by omega) (by omega)
  have : W (CL g lf (n + 1) fn_spec_l9Winner [p, po, .int .i64 (T : Int)] h) fun v h' => v = .int .i64 ((gWin vs.length (linkW vs) (cutW vs) (setL os 1) (setL os 2) T : Nat) : Int) ∧ Keep h.length h h' := by
    rw [spec_l9Winner.call_eq]
    unfold spec_l9Winner.main
    simp only [env_C, env_len]
    repeat (first | with_reducible refine wbd (by assumption) ?_ | dsimp only)
    refine wcall (wtable_W g lf (vs := vs) (by omega) (linkW vs) (cutW vs) hlf n (by omega) h) fun q h2 ⟨T2, o2, i2, k2⟩ => ?_
    repeat (first | dsimp only)
    refine wcall (wsolve_W g lf hn hlf vs.length (setL os 1) (setL os 2) T n T2 q p h2 h.length (fr_le _ _ _) (gpos_of hol) hT (by omega) (hp.fix.keep k2) o2 k2.1 i2) fun v h3 ⟨hv, T3, o3, i3, k3⟩ => ?_
    subst hv
    repeat (first | with_reducible refine wrI ?_ | dsimp only)
    exact W.ret ⟨rfl, k2.trans k3⟩
  obtain ⟨_, h', e, rfl, k⟩ := this
  exact ⟨h', e, k⟩

theorem wwinL_eq {nodes : Int} {ws : List (Int × Int)} {os : List Int} (hb : ownersB nodes ws os = true) {T : Nat} (hT : T = 1 ∨ T = 2) : wwinL nodes ws os (T : Int) = ((gWin (natW ws).length (linkW (natW ws)) (cutW (natW ws)) (setL os 1) (setL os 2) T : Nat) : Int) := by
  unfold wwinL; rw [hb, playerB_of hT, natW_length]; rfl
theorem specWWinner_calls {ws : List (Int × Int)} {os : List Int} {p po : PV} {h : PHeap} (N : Nat) (hN : 17 ≤ N) (nodes t : Int) (hp : WSl h p ws) (hl : ws.length ≤ 2 ^ 35) (hf : ws.length < lf) (ho : IntSl .i64 h po os) (hol : os.length ≤ 2 ^ 35) (hof : os.length < lf) (hlf : 1000 < lf) :
    ∃ h', CL g lf N fn_spec_WiresWinner [.int .i64 nodes, p, po, .int .i64 t] h = some (.int .i64 (wwinL nodes ws os t), h') ∧ Keep h.length h h' := by
  obtain ⟨n, rfl⟩ : ∃ n, N = n + 1 := ⟨N - 1, by omega⟩
  obtain ⟨h1, e1, k1⟩ := specOwners_calls g lf n (by omega) nodes hp hl hf ho hol hof
  have hin1 : CL g lf n fn_spec_l1In [.int .i64 t, .int .i64 1, .int .i64 2] h1 = some (.bool (playerB t), h1) := l1In_N g lf n (by omega) h1 t 1 2
  have : W (CL g lf (n + 1) fn_spec_WiresWinner [.int .i64 nodes, p, po, .int .i64 t] h) fun v h' => v = .int .i64 (wwinL nodes ws os t) ∧ Keep h.length h h' := by
    rw [spec_WiresWinner.call_eq]
    unfold spec_WiresWinner.main
    simp only [env_C, env_pick, env_un]
    cases hb : ownersB nodes ws os with
    | false =>
      rw [hb] at e1
      repeat (first | with_reducible refine wT ?_ | with_reducible refine wg0 rfl ?_ | with_reducible refine wpT ?_ | with_reducible refine wnF ?_ | with_reducible refine wsm ?_ | with_reducible refine wrI ?_ | with_reducible refine wbd (by assumption) ?_ | dsimp only)
      exact W.ret ⟨by unfold wwinL; rw [hb]; rfl, k1⟩
    | true =>
      rw [hb] at e1
      cases hpl : playerB t with
      | false =>
        rw [hpl] at hin1
        repeat (first | with_reducible refine wT ?_ | with_reducible refine wg1 rfl ?_ | with_reducible refine wpF ?_ | with_reducible refine wnT ?_ | with_reducible refine wnF ?_ | with_reducible refine wpv ?_ | with_reducible refine wsm ?_ | with_reducible refine wrI ?_ | with_reducible refine wbd (by assumption) ?_ | dsimp only)
        exact W.ret ⟨by unfold wwinL; rw [hpl, Bool.and_false]; rfl, k1⟩
      | true =>
        rw [hpl] at hin1
        obtain ⟨T, rfl, hT⟩ := player_of hpl
        obtain ⟨_, h1b, h1c⟩ := owners_of hb
        obtain ⟨M, rfl, hws, hn⟩ := wires_of h1b
        obtain ⟨h2, e2, k2⟩ := wwinner_W g lf hn (hws ▸ hp.keep k1) (ho.keep k1) (by rw [natW_length]; exact h1c) hT hlf n (by omega)
        repeat (first | with_reducible refine wF ?_ | with_reducible refine wg1 rfl ?_ | with_reducible refine wpF ?_ | with_reducible refine wnT ?_ | with_reducible refine wpv ?_ | with_reducible refine wsm ?_ | with_reducible refine wrI ?_ | with_reducible refine wbd (by assumption) ?_ | dsimp only)
        exact W.ret ⟨by rw [wwinL_eq hb hT], k1.trans (k2.mono k1.1)⟩
  obtain ⟨_, h', e, rfl, k⟩ := this
  exact ⟨h', e, k⟩

/-! ### wires that win -/
def wtakeFrom (nodes : Int) (ws : List (Int × Int)) (os : List Int) (pl : Int) (k m : Nat) : List Int := ((List.range' k m).filter (wtakeB nodes ws os pl)).map fun k : Nat => (k : Int)
theorem wtakeFrom_all (nodes : Int) (ws : List (Int × Int)) (os : List Int) (pl : Int) : wtakeFrom nodes ws os pl 0 os.length = wtakeL nodes ws os pl := by unfold wtakeFrom wtakeL; rw [List.range_eq_range']
theorem wtakeFrom_succ (nodes : Int) (ws : List (Int × Int)) (os : List Int) (pl : Int) (k m : Nat) : wtakeFrom nodes ws os pl k (m + 1) = if wtakeB nodes ws os pl k = true then (k : Int) :: wtakeFrom nodes ws os pl (k + 1) m else wtakeFrom nodes ws os pl (k + 1) m := by
  unfold wtakeFrom
  rw [List.range'_succ, List.filter_cons]
  split <;> rfl
theorem owners_set {nodes : Int} {ws : List (Int × Int)} {os : List Int} (hb : ownersB nodes ws os = true) {P : Nat} (hP : P = 1 ∨ P = 2) (k : Nat) : ownersB nodes ws (os.set k (P : Int)) = true := by
  obtain ⟨h1, h2, h3⟩ := owners_of hb
  unfold ownersB
  rw [h2, List.length_set, decide_eq_true h3, Bool.true_and, Bool.and_true, List.all_eq_true]
  intro x hx
  rcases List.mem_or_eq_of_mem_set hx with h | rfl
  · exact List.all_eq_true.1 h1 x h
  · exact decide_eq_true (by omega)
theorem wtakeL_none {nodes : Int} {ws : List (Int × Int)} {os : List Int} {pl : Int} (h : ownersB nodes ws os = false ∨ playerB pl = false ∨ wonL nodes ws os ≠ 0) : wtakeL nodes ws os pl = [] := by
  unfold wtakeL
  rw [List.filter_eq_nil_iff.2, List.map_nil]
  intro k _ hk
  unfold wtakeB at hk
  simp only [Bool.and_eq_true, decide_eq_true_eq] at hk
  rcases h with h | h | h
  · rw [h] at hk; exact absurd hk.1.1.1.1 (by decide)
  · rw [h] at hk; exact absurd hk.1.1.1.2 (by decide)
  · exact h hk.1.1.2
theorem specWTake_calls {ws : List (Int × Int)} {os : List Int} {p po : PV} {h : PHeap} (N : Nat) (hN : 18 ≤ N) (nodes pl : Int) (hp : WSl h p ws) (hl : ws.length ≤ 2 ^ 35) (hf : ws.length < lf) (ho : IntSl .i64 h po os) (hol : os.length ≤ 2 ^ 35) (hof : os.length < lf) (hlf : 1000 < lf) :
    ∃ q h', CL g lf N fn_spec_WinningWires [.int .i64 nodes, p, po, .int .i64 pl] h = some (q, h') ∧ OwnSl h.length h' q (wtakeL nodes ws os pl) ∧ Keep h.length h h' := by
  obtain ⟨n, rfl⟩ : ∃ n, N = n + 1 := ⟨N - 1, by omega⟩
  suffices this : W (CL g lf (n + 1) fn_spec_WinningWires [.int .i64 nodes, p, po, .int .i64 pl] h) fun q h' => OwnSl h.length h' q (wtakeL nodes ws os pl) ∧ Keep h.length h h' by
    obtain ⟨q, h', e, o, k⟩ := this
    exact ⟨q, h', e, o, k⟩
  rw [spec_WinningWires.call_eq]
  unfold spec_WinningWires.main
  simp only [env_C, env_lf, env_pick, env_buildSlice, env_bin, env_un]
  refine wempty fun q h1 o1 k1 => ?_
  obtain ⟨h2, e2, k2⟩ := specOwners_calls g lf n (by omega) nodes (hp.keep k1) hl hf (ho.keep k1) hol hof
  have K2 : Keep h.length h h2 := k1.trans (k2.mono k1.1)
  have hin1 : CL g lf n fn_spec_l1In [.int .i64 pl, .int .i64 1, .int .i64 2] h2 = some (.bool (playerB pl), h2) := l1In_N g lf n (by omega) h2 pl 1 2
  obtain ⟨h3, e3, k3⟩ := specWon_calls g lf n (by omega) nodes (hp.keep K2) hl hf (ho.keep K2) hol hof hlf
  have K3 : Keep h.length h h3 := K2.trans (k3.mono K2.1)
  have o2 := o1.keep k2
  have o3 := o2.keep k3
  cases hb : ownersB nodes ws os with
  | false =>
    rw [hb] at e2
    rw [wtakeL_none (.inl hb)]
    repeat (first | with_reducible refine wT ?_ | with_reducible refine wg0 rfl ?_ | with_reducible refine wpT ?_ | with_reducible refine wnF ?_ | with_reducible refine wsm ?_ | with_reducible refine wbd (by assumption) ?_ | with_reducible refine wresO (by assumption) ?_ | dsimp only)
    exact W.ret ⟨o2, K2⟩
  | true =>
  rw [hb] at e2
  cases hpl : playerB pl with
  | false =>
    rw [hpl] at hin1
    rw [wtakeL_none (.inr (.inl hpl))]
    repeat (first | with_reducible refine wT ?_ | with_reducible refine wg1 rfl ?_ | with_reducible refine wg0 rfl ?_ | with_reducible refine wpT ?_ | with_reducible refine wpF ?_ | with_reducible refine wnT ?_ | with_reducible refine wnF ?_ | with_reducible refine wpv ?_ | with_reducible refine wsm ?_ | with_reducible refine wbd (by assumption) ?_ | with_reducible refine wresO (by assumption) ?_ | dsimp only)
    exact W.ret ⟨o2, K2⟩
  | true =>
  rw [hpl] at hin1
  by_cases hw0 : wonL nodes ws os = 0
  · rw [hw0] at e3
    obtain ⟨P, rfl, hP⟩ := player_of hpl
    obtain ⟨h1a, h1b, h1c⟩ := owners_of hb
    obtain ⟨M, rfl, hws, hn⟩ := wires_of h1b
    have hl8 : ws.length ≤ 8 := by have := hn.2.2.1; rwa [natW_length] at this
    have hlo := ho.len'
    have hP' : 3 - P = 1 ∨ 3 - P = 2 := by omega
    repeat (first | with_reducible refine wF ?_ | with_reducible refine wg1 rfl ?_ | with_reducible refine wpF ?_ | with_reducible refine wnT ?_ | with_reducible refine wpv ?_ | with_reducible refine wsm ?_ | with_reducible refine wbd (by assumption) ?_ | with_reducible refine wneqF (by omega) ?_ | dsimp only)
    refine loopW (fun m s => ∃ (k : Nat) (ys : List Int) (q : PV) (h4 : PHeap), s = spec_WinningWires.st0 p po (.int .i64 (P : Int)) q (.int .i64 (k : Int)) h4 ∧ k + m = os.length ∧ ys.length ≤ k ∧ ys ++ wtakeFrom (M : Int) ws os (P : Int) k m = wtakeL (M : Int) ws os (P : Int) ∧ OwnSl h.length h4 q ys ∧ Keep h.length h h4) ?_ lf os.length _ hof ⟨0, [], q, h3, rfl, by omega, Nat.le_refl _, wtakeFrom_all _ _ _ _, o3, K3⟩
    rintro n1 m s ⟨k, ys, q, h4, rfl, hkm, hy, hL, o4, k4⟩ next
    rw [spec_WinningWires.body0_eq]
    unfold spec_WinningWires.body0
    simp only [env_C, env_buildSlice, env_load, env_store, env_bin, env_indexAddr, env_len, env_append]
    cases m with
    | zero =>
      repeat (first | with_reducible refine wF ?_ | with_reducible refine wbd (by assumption) ?_ | with_reducible refine wlssF (by omega) ?_ | with_reducible refine wresO (by assumption) ?_ | rw [kLoop_exit] | rw [spec_WinningWires.after0_se0_1_2_3_9_10_34])
      have : wtakeFrom (M : Int) ws os (P : Int) k 0 = [] := rfl
      rw [this, List.append_nil] at hL
      exact W.ret ⟨hL ▸ o4, k4⟩
    | succ m =>
      have hk : k < os.length := by omega
      rw [wtakeFrom_succ] at hL
      obtain ⟨a, ea, la⟩ := (ho.keep k4).at' hk
      have hgd : os.getD k 5 = os[k] := by rw [List.getD_eq_getElem?_getD, List.getElem?_eq_getElem hk]; rfl
      by_cases hz : os[k] = 0
      · rw [hz] at la
        obtain ⟨v5, q5, h5, e5, e5', o5, k5⟩ := copy_all (ho.keep k4) (by omega) (by omega)
        repeat (first | with_reducible refine wT ?_ | with_reducible refine wF ?_ | with_reducible refine wbd (by assumption) ?_ | with_reducible refine wlssT (by omega) ?_ | with_reducible refine wneqF (by omega) ?_ | dsimp only)
        refine wst o5 hk fun h6 o6 k6 l6 a6 e6 => ?_
        have k46 : Keep h4.length h4 h6 := k5.trans k6
        have K6 : Keep h.length h h6 := k4.trans (k46.mono k4.1)
        have e7 := other_W g lf n (by omega) h6 hP
        obtain ⟨h8, e8, k8⟩ := wwinner_W g lf hn (hws ▸ hp.keep K6) o6.int (by rw [List.length_set, natW_length]; exact h1c) hP' hlf n (by omega)
        have K8 : Keep h.length h h8 := K6.trans (k8.mono K6.1)
        have o8 : OwnSl h.length h8 q ys := (o4.keep k46).keep k8
        have hv : wwinL (M : Int) ws (os.set k (P : Int)) (3 - (P : Int)) = ((gWin (natW ws).length (linkW (natW ws)) (cutW (natW ws)) (setL (os.set k (P : Int)) 1) (setL (os.set k (P : Int)) 2) (3 - P) : Nat) : Int) := by
          rw [show (3 : Int) - (P : Int) = ((3 - P : Nat) : Int) by omega]; exact wwinL_eq (owners_set hb hP k) hP'
        have hwB : wtakeB (M : Int) ws os (P : Int) k = decide (((gWin (natW ws).length (linkW (natW ws)) (cutW (natW ws)) (setL (os.set k (P : Int)) 1) (setL (os.set k (P : Int)) 2) (3 - P) : Nat) : Int) = (P : Int)) := by
          unfold wtakeB; rw [hb, hpl, hv, decide_eq_true hw0, hgd, decide_eq_true hz, Bool.true_and, Bool.true_and, Bool.true_and, Bool.true_and]
        rw [hwB] at hL
        repeat (first | with_reducible refine wbd (by assumption) ?_ | dsimp only)
        refine weql (fun e => ?_) (fun e => ?_)
        · rw [decide_eq_true e, if_pos rfl] at hL
          repeat (first | with_reducible refine wT ?_ | (refine wap o8 K8.1 (by omega) fun p' h9 o9 k9 => ?_) | with_reducible refine wadd1 (by omega) ?_ | dsimp only)
          skip
          exact next _ _ (Nat.lt_succ_self m) ⟨k + 1, ys ++ [(k : Int)], p', h9, rfl, by omega, by simp; omega, by rw [List.append_assoc]; exact hL, o9, K8.trans k9⟩
        · rw [decide_eq_false e, if_neg (by decide)] at hL
          repeat (first | with_reducible refine wF ?_ | with_reducible refine wadd1 (by omega) ?_)
          exact next _ _ (Nat.lt_succ_self m) ⟨k + 1, ys, q, h8, rfl, by omega, by omega, hL, o8, K8⟩
      · have hwB : wtakeB (M : Int) ws os (P : Int) k = false := by unfold wtakeB; rw [hgd, decide_eq_false hz, Bool.and_false, Bool.false_and]
        rw [hwB, if_neg (by decide)] at hL
        repeat (first | with_reducible refine wT ?_ | with_reducible refine wbd (by assumption) ?_ | with_reducible refine wadd1 (by omega) ?_ | with_reducible refine wlssT (by omega) ?_ | with_reducible refine wneqT (by omega) ?_)
        exact next _ _ (Nat.lt_succ_self m) ⟨k + 1, ys, q, h4, rfl, by omega, by omega, hL, o4, k4⟩
  · rw [wtakeL_none (.inr (.inr hw0))]
    repeat (first | with_reducible refine wT ?_ | with_reducible refine wg1 rfl ?_ | with_reducible refine wpF ?_ | with_reducible refine wnT ?_ | with_reducible refine wpv ?_ | with_reducible refine wsm ?_ | with_reducible refine wbd (by assumption) ?_ | with_reducible refine wneqT (by omega) ?_ | with_reducible refine wresO (by assumption) ?_ | dsimp only)
    exact W.ret ⟨o3, K3⟩

end Go.Proofs.YtihlmjapddjjjaaDoor

/- The model's chapter 9, third part: least links and cuts, and the gap. -/
set_option maxRecDepth 20000
namespace Go.Proofs.YtihlmjapddjjjaaDoor
open Go Go.Ip G

variable (g : Nat → PV) (lf n : Nat)

/-! ### the gap -/
end Go.Proofs.YtihlmjapddjjjaaDoor

/- The draws of chapter 9: nodes, wires, owners, sets. -/
set_option maxRecDepth 20000
namespace Go.Proofs.YtihlmjapddjjjaaDoor
open Go Go.Ip G

theorem OwnW.keepX {id n m : Nat} {h h' : PHeap} {p : PV} {ws : List (Int × Int)} (s : OwnW n h p ws) (hk : KeepX id m h h') (hn : id < n) (hm : h.length ≤ m) : OwnW n h' p ws := by
  rcases s with s | ⟨i, h1, h2, h3⟩
  · exact .inl s
  · have hi := (List.getElem?_eq_some_iff.1 h3).1
    exact .inr ⟨i, h1, h2, by rw [hk.2 i (by omega) (by omega)]; exact h3⟩
theorem wlit2 {Q : PV → PHeap → Prop} {h : PHeap} {a b : Int} {F : PV × PHeap → Res} (hf : ∀ p h', OwnSl h.length h' p [a, b] → Keep h.length h h' → W (F (p, h')) Q) : W ((buildSliceP Tryd.prog 30 2 [(0, .int .i64 a), (1, .int .i64 b)] h).bind F) Q := by
  have hb : buildSliceP Tryd.prog 30 2 [(0, .int .i64 a), (1, .int .i64 b)] h = some (.sl h.length 0 2, h ++ [.own 1 ([a, b].map (.int .i64))]) := by
    simp [buildSliceP, tyElem, tySize, tyZero, repeatCells, fillP, PV.cells, setCells]
  exact wbd hb (hf _ _ (.inr ⟨h.length, Nat.le_refl _, rfl, by simp⟩) (Keep.append _ _ _ (Nat.le_refl _)))

theorem f_quo39 (B : Nat) (h : B < 40) : binP Tryd.prog .quo 3 (.int .i64 (B : Int)) (.int .i64 39) = some (.int .i64 ((B / 39 : Nat) : Int)) := by
  have hb : B / 39 ≤ 1 := by omega
  rw [bin_quo (by decide), show (39 : Int) = ((39 : Nat) : Int) from rfl, ← Int.ofNat_tdiv, wr (by omega)]

variable (g : Nat → PV) (lf n : Nat)

theorem wires_W {h : PHeap} {id m : Nat} (N : Nat) (hN : 3 ≤ N) (c : Int) (hc1 : 1 ≤ c) (hc2 : c ≤ 1000000) (hr : Rd h id m) (hm : m ≤ 600000) (hlf : 20 < lf) :
    W (CL g lf N fn_spec_l20Wires [.ptr id 0, .int .i64 c] h) fun v h' => ∃ (nodes : Int) (q : PV) (ws : List (Int × Int)) (m' : Nat), v = .tup [.int .i64 nodes, q] ∧ Rd h' id m' ∧ m' ≤ m + 100 ∧ KeepX id h.length h h' ∧ OwnW h.length h' q ws ∧ ws.length ≤ 8 ∧ 1 ≤ nodes ∧ nodes ≤ 6 := by
  obtain ⟨n, rfl⟩ : ∃ n, N = n + 1 := ⟨N - 1, by omega⟩
  have hid := hr.lt
  rw [spec_l20Wires.call_eq]
  unfold spec_l20Wires.main
  simp only [env_C, env_lf, env_buildSlice, env_bin]
  obtain ⟨v1, h1, e1, r1, o1, a1, a2, _⟩ := pick_calls g lf n (by omega) 4 hr (by omega) (by omega)
  obtain ⟨V, rfl⟩ := Int.eq_ofNat_of_zero_le a1
  have hV : V < 4 := by omega
  have K1 : KeepX id h.length h h1 := o1.x
  have hl12 : h1.length = h.length := o1.1
  repeat (first | with_reducible refine wbd (by assumption) ?_ | (refine wemptyW fun q h2 w2 k2 => ?_) | with_reducible refine wadd (by omega) ?_ | dsimp only)
  dsimp only at w2 k2
  have r2 := r1.keep k2 r1.lt
  have K2 : KeepX id h.length h h2 := K1.trans ((Keep.x k2).mono (by omega))
  obtain ⟨v3, h3, e3, r3, o3, b1, b2, _⟩ := pick_calls g lf n (by omega) 7 r2 (by omega) (by omega)
  obtain ⟨U, rfl⟩ := Int.eq_ofNat_of_zero_le b1
  have hU : U < 7 := by omega
  have K3 : KeepX id h.length h h3 := K2.trans o3.x
  have w3 : OwnW h.length h3 q [] := (w2.mono (by omega)).keepX (o3.x (n := h2.length)) (by omega) (Nat.le_refl _)
  obtain ⟨M, hM⟩ : ∃ M, M = 2 + V := ⟨_, rfl⟩
  have hM2 : (2 : Int) + (V : Int) = (M : Int) := by omega
  have hM5 : M ≤ 5 := by omega
  have hM0 : 2 ≤ M := by omega
  repeat (first | with_reducible refine wbd (by assumption) ?_ | with_reducible refine wadd (by omega) ?_ | dsimp only)
  refine loopW (fun d s => ∃ (q : PV) (ws : List (Int × Int)) (m' : Nat) (h4 : PHeap), s = spec_l20Wires.st0 (.ptr id 0) (.int .i64 c) (.int .i64 (M : Int)) q (.int .i64 (d : Int)) h4 ∧ Rd h4 id m' ∧ m' + 2 * d ≤ m + 2 + 14 ∧ KeepX id h.length h h4 ∧ OwnW h.length h4 q ws ∧ ws.length + d ≤ 7) ?_ lf (1 + U) _ (by omega)
    ⟨q, [], m + 1 + 1, h3, by rw [hM2, show (1 : Int) + (U : Int) = ((1 + U : Nat) : Int) by omega], r3, by omega, K3, w3, by simp; omega⟩
  rintro n1 d s ⟨q, ws, m', h4, rfl, r4, hm4, K4, w4, hw⟩ next
  rw [spec_l20Wires.body0_eq]
  unfold spec_l20Wires.body0
  simp only [env_C, env_build, env_buildSlice, env_bin, env_append]
  have hl4 := K4.1
  cases d with
  | zero =>
    obtain ⟨bo, h5, e5, r5, o5⟩ := odd_calls g lf n (by omega) c r4 (by omega) hc2 hc1
    have K5 : KeepX id h.length h h5 := K4.trans o5.x
    have w5 : OwnW h.length h5 q ws := w4.keepX (o5.x (n := h4.length)) (by omega) (Nat.le_refl _)
    have hl5 := K5.1
    cases bo with
    | false =>
      repeat (first | with_reducible refine wF ?_ | with_reducible refine wrI ?_ | with_reducible refine wbd (by assumption) ?_ | (with_reducible refine wresW w5 ?_) | with_reducible refine wgtrF (by omega) ?_ | rw [kLoop_exit] | rw [spec_l20Wires.after0_se0_0_1_6_7_8_19] | dsimp only | simp only [env_C, env_Y, env_g, env_lf, env_pick, env_alloc, env_box, env_build, env_buildSlice, env_load, env_store, env_ptr, env_bin, env_un, env_conv, env_make, env_slice, env_fieldAddr, env_field, env_indexAddr, env_index, env_extract, env_len, env_append, env_max, env_min, env_makeMap, env_lookup, env_update, env_clos, env_bstr])
      exact W.ret ⟨_, q, ws, _, rfl, r5, by omega, K5, w5, by omega, by omega, by omega⟩
    | true =>
      obtain ⟨v6, h6, e6, r6, o6, c1, c2, _⟩ := pick_calls g lf n (by omega) 3 r5 (by omega) (by omega)
      have K6 : KeepX id h.length h h6 := K5.trans o6.x
      have w6 : OwnW h.length h6 q ws := w5.keepX (o6.x (n := h5.length)) (by omega) (Nat.le_refl _)
      have hl6 := K6.1
      repeat (first | with_reducible refine wT ?_ | with_reducible refine wF ?_ | with_reducible refine wbd (by assumption) ?_ | with_reducible refine wgtrF (by omega) ?_ | rw [kLoop_exit] | rw [spec_l20Wires.after0_se0_0_1_6_7_8_19] | dsimp only | simp only [env_C, env_Y, env_g, env_lf, env_pick, env_alloc, env_box, env_build, env_buildSlice, env_load, env_store, env_ptr, env_bin, env_un, env_conv, env_make, env_slice, env_fieldAddr, env_field, env_indexAddr, env_index, env_extract, env_len, env_append, env_max, env_min, env_makeMap, env_lookup, env_update, env_clos, env_bstr])
      refine weql (fun e => ?_) (fun e => ?_)
      · repeat (first | with_reducible refine wT ?_ | (with_reducible refine wbw ?_))
        refine wapW w6 hl6 (by omega) fun p' h7 w7 k7 => ?_
        have r7 := r6.keep k7 (by omega)
        repeat (first | with_reducible refine wrI ?_ | (with_reducible refine wresW w7 ?_) | dsimp only)
        exact W.ret ⟨_, p', _, _, rfl, r7, by omega, K6.trans (Keep.x k7), w7, by simp; omega, by omega, by omega⟩
      · repeat (first | with_reducible refine wF ?_)
        refine weql (fun e => ?_) (fun e => ?_)
        · repeat (first | with_reducible refine wT ?_ | (with_reducible refine wbw ?_))
          refine wapW w6 hl6 (by omega) fun p' h7 w7 k7 => ?_
          have r7 := r6.keep k7 (by omega)
          repeat (first | with_reducible refine wrI ?_ | (with_reducible refine wresW w7 ?_) | dsimp only)
          exact W.ret ⟨_, p', _, _, rfl, r7, by omega, K6.trans (Keep.x k7), w7, by simp; omega, by omega, by omega⟩
        · repeat (first | with_reducible refine wF ?_ | (refine wlit2 fun q7 h7 o7 k7 => ?_) | dsimp only)
          have r7 := r6.keep k7 r6.lt
          have K7 : KeepX id h.length h h7 := K6.trans ((Keep.x k7).mono hl6)
          have w7 : OwnW h.length h7 q ws := w6.keep k7
          obtain ⟨v8, h8, e8, r8, o8, d1, d2, _⟩ := pick_calls g lf n (by omega) 2 r7 (by omega) (by omega)
          obtain ⟨Y, rfl⟩ := Int.eq_ofNat_of_zero_le d1
          have hY : Y < 2 := by omega
          have w8 : OwnW h.length h8 q ws := w7.keepX (o8.x (n := h7.length)) (by omega) (Nat.le_refl _)
          have o7' : OwnSl h6.length h8 q7 [1, 6] := o7.keepX (o8.x (n := h7.length)) (by omega) (Nat.le_refl _)
          repeat (first | with_reducible refine wrI ?_ | with_reducible refine wbd (by assumption) ?_ | (refine wat o7'.int (show Y < 2 from hY) fun a hl => ?_) | dsimp only)
          repeat (first | (with_reducible refine wresW w8 ?_))
          have hv : 1 ≤ ([1, 6] : List Int)[Y] ∧ ([1, 6] : List Int)[Y] ≤ 6 := by
            have : Y = 0 ∨ Y = 1 := by omega
            rcases this with rfl | rfl <;> simp
          exact W.ret ⟨_, q, ws, _, rfl, r8, by omega, K7.trans o8.x, w8, by omega, hv.1, hv.2⟩
  | succ d =>
    obtain ⟨v5, h5, e5, r5, o5, c1, c2, _⟩ := pick_calls g lf n (by omega) (M : Int) r4 (by omega) (by omega)
    obtain ⟨A, rfl⟩ := Int.eq_ofNat_of_zero_le c1
    have hA : A < M := by omega
    obtain ⟨v6, h6, e6, r6, o6, d1, d2, _⟩ := pick_calls g lf n (by omega) ((M - 1 : Nat) : Int) r5 (by omega) (by omega)
    obtain ⟨B, rfl⟩ := Int.eq_ofNat_of_zero_le d1
    have hB : B < M := by omega
    have K6 : KeepX id h.length h h6 := (K4.trans o5.x).trans o6.x
    have w6 : OwnW h.length h6 q ws := (w4.keepX (o5.x (n := h4.length)) (by omega) (Nat.le_refl _)).keepX (o6.x (n := h5.length)) (by omega) (Nat.le_refl _)
    have hl6 := K6.1
    repeat (first | with_reducible refine wT ?_ | with_reducible refine wbd (by assumption) ?_ | (with_reducible refine wbw ?_) | with_reducible refine wadd1 (by omega) ?_ | with_reducible refine waddN (by omega) ?_ | with_reducible refine wsub1 (by omega) (by omega) ?_ | with_reducible refine wremN (by omega) ?_ | with_reducible refine wgtrT (by omega) ?_ | dsimp only)
    refine wapW w6 hl6 (by omega) fun p' h7 w7 k7 => ?_
    have r7 := r6.keep k7 (by omega)
    repeat (first | with_reducible refine wsub1 (by omega) (by omega) ?_ | dsimp only)
    refine next _ _ (Nat.lt_succ_self d) ⟨p', _, _, h7, rfl, r7, by omega, K6.trans (Keep.x k7), w7, by simp; omega⟩

theorem owned_W {h : PHeap} {id m : Nat} (N : Nat) (hN : 4 ≤ N) (c : Int) (hc1 : 1 ≤ c) (hc2 : c ≤ 1000000) (hr : Rd h id m) (hm : m ≤ 500000) (hlf : 20 < lf) :
    W (CL g lf N fn_spec_l20Owned [.ptr id 0, .int .i64 c] h) fun v h' => ∃ (nodes : Int) (q : PV) (ws : List (Int × Int)) (qo : PV) (os : List Int) (m' : Nat), v = .tup [.int .i64 nodes, q, qo] ∧ Rd h' id m' ∧ m' ≤ m + 200 ∧ KeepX id h.length h h' ∧ OwnW h.length h' q ws ∧ ws.length ≤ 8 ∧ 1 ≤ nodes ∧ nodes ≤ 6 ∧ OwnSl h.length h' qo os ∧ os.length ≤ 9 := by
  obtain ⟨n, rfl⟩ : ∃ n, N = n + 1 := ⟨N - 1, by omega⟩
  have hid := hr.lt
  rw [spec_l20Owned.call_eq]
  unfold spec_l20Owned.main
  simp only [env_C, env_lf, env_buildSlice, env_extract]
  refine wcall (wires_W g lf n (by omega) c hc1 hc2 hr (by omega) hlf) fun v h1 ⟨nodes, q, ws, m1, hv, r1, hm1, K1, w1, hw8, hn1, hn6⟩ => ?_
  subst hv
  have hl1 := K1.1
  repeat (first | with_reducible refine wx0 ?_ | with_reducible refine wx1 ?_ | (refine wempty fun qo h2 o2 k2 => ?_) | dsimp only)
  dsimp only at o2 k2
  have r2 := r1.keep k2 r1.lt
  have K2 : KeepX id h.length h h2 := K1.trans ((Keep.x k2).mono hl1)
  have w2 := w1.keep k2
  obtain ⟨v3, h3, e3, r3, o3, b1, b2, _⟩ := pick_calls g lf n (by omega) 4 r2 (by omega) (by omega)
  have K3 : KeepX id h.length h h3 := K2.trans o3.x
  have hl2 := K2.1
  have w3 : OwnW h.length h3 q ws := w2.keepX (o3.x (n := h2.length)) (by omega) (Nat.le_refl _)
  have q3 : OwnSl h1.length h3 qo [] := o2.keepX (o3.x (n := h2.length)) (by omega) (Nat.le_refl _)
  have hl13 : h1.length ≤ h3.length := Nat.le_trans k2.1 (o3.x (n := 0)).1
  have hlw := w3.sl.len
  repeat (first | with_reducible refine wbd (by assumption) ?_ | dsimp only)
  refine loopW (fun d s => ∃ (k : Nat) (qo : PV) (os : List Int) (m' : Nat) (h4 : PHeap), s = spec_l20Owned.st0 (.ptr id 0) (.int .i64 c) (.int .i64 nodes) q qo (.int .i64 v3) (.int .i64 (k : Int)) h4 ∧ k + d = ws.length ∧ Rd h4 id m' ∧ m' + 2 * d ≤ m + 140 ∧ KeepX id h.length h h4 ∧ OwnW h.length h4 q ws ∧ OwnSl h1.length h4 qo os ∧ os.length = k ∧ h1.length ≤ h4.length) ?_ lf ws.length _ (by omega)
    ⟨0, qo, [], m1 + 1, h3, rfl, by omega, r3, by omega, K3, w3, q3, rfl, hl13⟩
  rintro n1 d s ⟨k, qo, os, m', h4, rfl, hkd, r4, hm4, K4, w4, q4, hos, hl4⟩ next
  rw [spec_l20Owned.body0_eq]
  unfold spec_l20Owned.body0
  simp only [env_C, env_buildSlice, env_bin, env_len, env_append]
  cases d with
  | zero =>
    obtain ⟨bo, h5, e5, r5, o5⟩ := odd_calls g lf n (by omega) c r4 (by omega) hc2 hc1
    have K5 : KeepX id h.length h h5 := K4.trans o5.x
    have w5 : OwnW h.length h5 q ws := w4.keepX (o5.x (n := h4.length)) (by omega) (Nat.le_refl _)
    have q5 : OwnSl h1.length h5 qo os := q4.keepX (o5.x (n := h4.length)) (by omega) (Nat.le_refl _)
    have hl5 : h1.length ≤ h5.length := Nat.le_trans hl4 (o5.x (n := 0)).1
    cases bo with
    | false =>
      repeat (first | with_reducible refine wF ?_ | with_reducible refine wrI ?_ | with_reducible refine wbd (by assumption) ?_ | (with_reducible refine wresW w5 ?_) | (with_reducible refine wresO q5 ?_) | with_reducible refine wlssF (by omega) ?_ | rw [kLoop_exit] | rw [spec_l20Owned.after0_se0_0_1_7_8_9_10_11_25] | dsimp only | simp only [env_C, env_Y, env_g, env_lf, env_pick, env_alloc, env_box, env_build, env_buildSlice, env_load, env_store, env_ptr, env_bin, env_un, env_conv, env_make, env_slice, env_fieldAddr, env_field, env_indexAddr, env_index, env_extract, env_len, env_append, env_max, env_min, env_makeMap, env_lookup, env_update, env_clos, env_bstr])
      exact W.ret ⟨_, q, ws, qo, os, _, rfl, r5, by omega, K5, w5, hw8, hn1, hn6, q5.mono hl1, by omega⟩
    | true =>
      repeat (first | with_reducible refine wT ?_ | with_reducible refine wF ?_ | with_reducible refine wrI ?_ | with_reducible refine wbd (by assumption) ?_ | (refine wap q5 hl5 (by omega) fun p' h6 q6 k6 => ?_) | with_reducible refine wlssF (by omega) ?_ | rw [kLoop_exit] | rw [spec_l20Owned.after0_se0_0_1_7_8_9_10_11_25] | dsimp only | simp only [env_C, env_Y, env_g, env_lf, env_pick, env_alloc, env_box, env_build, env_buildSlice, env_load, env_store, env_ptr, env_bin, env_un, env_conv, env_make, env_slice, env_fieldAddr, env_field, env_indexAddr, env_index, env_extract, env_len, env_append, env_max, env_min, env_makeMap, env_lookup, env_update, env_clos, env_bstr])
      have r6 := r5.keep k6 (by omega)
      have K6 : KeepX id h.length h h6 := K5.trans ((Keep.x k6).mono hl1)
      have w6 : OwnW h.length h6 q ws := by
        rcases w5 with w5 | ⟨i, i1, i2, i3⟩
        · exact .inl w5
        · rcases w1 with w1 | ⟨j, j1, j2, j3⟩
          · rw [w1.1] at i2; cases i2
          · have hji : j = i := by rw [i2] at j2; cases j2; rfl
            subst hji
            have := (List.getElem?_eq_some_iff.1 j3).1
            exact .inr ⟨j, i1, i2, by rw [k6.2 j this]; exact i3⟩
      repeat (first | (with_reducible refine wresW w6 ?_) | (with_reducible refine wresO q6 ?_))
      exact W.ret ⟨_, q, ws, p', _, _, rfl, r6, by omega, K6, w6, hw8, hn1, hn6, q6.mono hl1, by simp; omega⟩
  | succ d =>
    obtain ⟨v5, h5, e5, r5, o5, c1, c2, _⟩ := pick_calls g lf n (by omega) 3 r4 (by omega) (by omega)
    obtain ⟨v6, h6, e6, r6, o6, d1, d2, _⟩ := pick_calls g lf n (by omega) 4 r5 (by omega) (by omega)
    have K6 : KeepX id h.length h h6 := (K4.trans o5.x).trans o6.x
    have w6 : OwnW h.length h6 q ws := (w4.keepX (o5.x (n := h4.length)) (by omega) (Nat.le_refl _)).keepX (o6.x (n := h5.length)) (by omega) (Nat.le_refl _)
    have q6 : OwnSl h1.length h6 qo os := (q4.keepX (o5.x (n := h4.length)) (by omega) (Nat.le_refl _)).keepX (o6.x (n := h5.length)) (by omega) (Nat.le_refl _)
    have hl6 : h1.length ≤ h6.length := Nat.le_trans hl4 (Nat.le_trans (o5.x (n := 0)).1 (o6.x (n := 0)).1)
    have fin : ∀ x (p' : PV) (h7 : PHeap), OwnSl h1.length h7 p' (os ++ [x]) → Keep h1.length h6 h7 → ∃ (k' : Nat) (qo : PV) (os : List Int) (m' : Nat) (h4 : PHeap), spec_l20Owned.st0 (.ptr id 0) (.int .i64 c) (.int .i64 nodes) q p' (.int .i64 v3) (.int .i64 ((k + 1 : Nat) : Int)) h7 = spec_l20Owned.st0 (.ptr id 0) (.int .i64 c) (.int .i64 nodes) q qo (.int .i64 v3) (.int .i64 (k' : Int)) h4 ∧ k' + d = ws.length ∧ Rd h4 id m' ∧ m' + 2 * d ≤ m + 140 ∧ KeepX id h.length h h4 ∧ OwnW h.length h4 q ws ∧ OwnSl h1.length h4 qo os ∧ os.length = k' ∧ h1.length ≤ h4.length := fun x p' h7 q7 k7 => by
      have w7 : OwnW h.length h7 q ws := by
        rcases w6 with w6 | ⟨i, i1, i2, i3⟩
        · exact .inl w6
        · rcases w1 with w1 | ⟨j, j1, j2, j3⟩
          · rw [w1.1] at i2; cases i2
          · have hji : j = i := by rw [i2] at j2; cases j2; rfl
            subst hji
            have := (List.getElem?_eq_some_iff.1 j3).1
            exact .inr ⟨j, i1, i2, by rw [k7.2 j this]; exact i3⟩
      exact ⟨k + 1, p', _, _, h7, rfl, by omega, r6.keep k7 (by omega), by omega, K6.trans ((Keep.x k7).mono hl1), w7, q7, by simp; omega, Nat.le_trans hl6 k7.1⟩
    repeat (first | with_reducible refine wT ?_ | with_reducible refine wbd (by assumption) ?_ | with_reducible refine wlssT (by omega) ?_ | dsimp only)
    refine wlss (fun e => ?_) (fun e => ?_)
    · repeat (first | with_reducible refine wT ?_ | (refine wap q6 hl6 (by omega) fun p' h7 q7 k7 => ?_) | with_reducible refine wadd1 (by omega) ?_ | dsimp only)
      skip
      exact next _ _ (Nat.lt_succ_self d) (fin _ p' h7 q7 k7)
    · repeat (first | with_reducible refine wF ?_ | (refine wap q6 hl6 (by omega) fun p' h7 q7 k7 => ?_) | with_reducible refine wadd1 (by omega) ?_ | dsimp only)
      skip
      exact next _ _ (Nat.lt_succ_self d) (fin _ p' h7 q7 k7)

theorem drawWiresWon_W {p : PV} {ys : List Int} {h : PHeap} (N : Nat) (hN : 7 ≤ N) (ha : Arg h p ys) (hlf : 20 < lf) :
    ∃ (nodes : Int) (q : PV) (ws : List (Int × Int)) (qo : PV) (os : List Int) (h' : PHeap), CL g lf N fn_spec_DrawWiresWon [p] h = some (.tup [.int .i64 nodes, q, qo], h') ∧ Keep h.length h h' ∧ WSl h' q ws ∧ ws.length ≤ 8 ∧ 1 ≤ nodes ∧ nodes ≤ 6 ∧ IntSl .i64 h' qo os ∧ os.length ≤ 9 := by
  obtain ⟨n, rfl⟩ : ∃ n, N = n + 1 := ⟨N - 1, by omega⟩
  have : W (CL g lf (n + 1) fn_spec_DrawWiresWon [p] h) fun v h' => ∃ (nodes : Int) (q : PV) (ws : List (Int × Int)) (qo : PV) (os : List Int), v = .tup [.int .i64 nodes, q, qo] ∧ Keep h.length h h' ∧ WSl h' q ws ∧ ws.length ≤ 8 ∧ 1 ≤ nodes ∧ nodes ≤ 6 ∧ IntSl .i64 h' qo os ∧ os.length ≤ 9 := by
    obtain ⟨h1, e1, r1, k1⟩ := open_calls g lf n (by omega) ha
    rw [spec_DrawWiresWon.call_eq]
    unfold spec_DrawWiresWon.main
    simp only [env_C, env_extract]
    repeat (first | with_reducible refine wbd (by assumption) ?_ | dsimp only)
    refine wcall (owned_W g lf n (by omega) _ (by decide) (by decide) r1 (by omega) hlf) fun v h2 ⟨nodes, q, ws, qo, os, m1, hv, r2, hm, K, w, hw, hn1, hn6, o, ho⟩ => ?_
    subst hv
    repeat (first | with_reducible refine wrI ?_ | with_reducible refine wx0 ?_ | with_reducible refine wx1 ?_ | with_reducible refine wx2 ?_ | (with_reducible refine wresW w ?_) | (with_reducible refine wresO o ?_) | dsimp only)
    exact W.ret ⟨nodes, q, ws, qo, os, rfl, k1.trans (K.keep (Nat.le_of_lt r1.lt)), w.sl, hw, hn1, hn6, o.int, ho⟩
  obtain ⟨v, h', e, nodes, q, ws, qo, os, rfl, rest⟩ := this
  exact ⟨nodes, q, ws, qo, os, h', e, rest⟩

theorem drawLinksEnds_W {p : PV} {ys : List Int} {h : PHeap} (N : Nat) (hN : 7 ≤ N) (ha : Arg h p ys) (hlf : 20 < lf) :
    ∃ (nodes : Int) (q : PV) (ws : List (Int × Int)) (S : Nat) (h' : PHeap), CL g lf N fn_spec_DrawLinksEnds [p] h = some (.tup [.int .i64 nodes, q, .int .i64 (S : Int)], h') ∧ Keep h.length h h' ∧ WSl h' q ws ∧ ws.length ≤ 8 ∧ 1 ≤ nodes ∧ nodes ≤ 6 ∧ S ≤ 1000 := by
  obtain ⟨n, rfl⟩ : ∃ n, N = n + 1 := ⟨N - 1, by omega⟩
  have : W (CL g lf (n + 1) fn_spec_DrawLinksEnds [p] h) fun v h' => ∃ (nodes : Int) (q : PV) (ws : List (Int × Int)) (S : Nat), v = .tup [.int .i64 nodes, q, .int .i64 (S : Int)] ∧ Keep h.length h h' ∧ WSl h' q ws ∧ ws.length ≤ 8 ∧ 1 ≤ nodes ∧ nodes ≤ 6 ∧ S ≤ 1000 := by
    obtain ⟨h1, e1, r1, k1⟩ := open_calls g lf n (by omega) ha
    rw [spec_DrawLinksEnds.call_eq]
    unfold spec_DrawLinksEnds.main
    simp only [env_C, env_bin, env_extract, env_len]
    repeat (first | with_reducible refine wbd (by assumption) ?_ | dsimp only)
    refine wcall (wires_W g lf n (by omega) _ (by decide) (by decide) r1 (by omega) hlf) fun v h2 ⟨nodes, q, ws, m1, hv, r2, hm, K, w, hw, hn1, hn6⟩ => ?_
    subst hv
    have hlw := w.sl.len
    have h28 : 1 <<< ws.length ≤ 256 := by rw [Nat.one_shiftLeft]; exact Nat.pow_le_pow_right (n := 2) (by decide) hw
    have h20 : 1 ≤ 1 <<< ws.length := by rw [Nat.one_shiftLeft]; exact Nat.one_le_two_pow
    obtain ⟨v3, h3, e3, r3, o3, b1, b2, _⟩ := pick_calls g lf n (by omega) ((1 <<< ws.length : Nat) : Int) r2 (by omega) (by omega)
    obtain ⟨A, rfl⟩ := Int.eq_ofNat_of_zero_le b1
    have hA : A < 256 := by omega
    obtain ⟨v4, h4, e4, r4, o4, c1, c2, _⟩ := pick_calls g lf n (by omega) 40 r3 (by omega) (by omega)
    obtain ⟨B, rfl⟩ := Int.eq_ofNat_of_zero_le c1
    have hB : B < 40 := by omega
    have hB2 : B / 39 ≤ 1 := by omega
    have hq : binP Tryd.prog .quo 3 (.int .i64 (B : Int)) (.int .i64 39) = some (.int .i64 ((B / 39 : Nat) : Int)) := f_quo39 B hB
    have w4 : OwnW h1.length h4 q ws := (w.keepX (o3.x (n := h2.length)) r1.lt (Nat.le_refl _)).keepX (o4.x (n := h3.length)) r1.lt (Nat.le_refl _)
    repeat (first | with_reducible refine wrI ?_ | with_reducible refine wx0 ?_ | with_reducible refine wx1 ?_ | with_reducible refine wbd (by assumption) ?_ | (with_reducible refine wresW w4 ?_) | with_reducible refine wshl (by omega) ?_ | with_reducible refine wadd (by omega) ?_ | with_reducible refine wmul (by omega) ?_ | dsimp only)
    refine W.ret ⟨nodes, q, ws, A + B / 39 * 512, by rw [show ((A + B / 39 * 512 : Nat) : Int) = (A : Int) + ((B / 39 : Nat) : Int) * 512 by omega], k1.trans (((K.trans (o3.x (n := h1.length))).trans (o4.x (n := h1.length))).keep (Nat.le_of_lt r1.lt)), w4.sl, hw, hn1, hn6, by omega⟩
  obtain ⟨v, h', e, nodes, q, ws, S, rfl, rest⟩ := this
  exact ⟨nodes, q, ws, S, h', e, rest⟩

theorem drawWiresWinner_W {p : PV} {ys : List Int} {h : PHeap} (N : Nat) (hN : 7 ≤ N) (ha : Arg h p ys) (hlf : 20 < lf) :
    ∃ (nodes : Int) (q : PV) (ws : List (Int × Int)) (qo : PV) (os : List Int) (pl : Int) (h' : PHeap), CL g lf N fn_spec_DrawWiresWinner [p] h = some (.tup [.int .i64 nodes, q, qo, .int .i64 pl], h') ∧ Keep h.length h h' ∧ WSl h' q ws ∧ ws.length ≤ 8 ∧ 1 ≤ nodes ∧ nodes ≤ 6 ∧ IntSl .i64 h' qo os ∧ os.length ≤ 9 ∧ 1 ≤ pl ∧ pl ≤ 4 := by
  obtain ⟨n, rfl⟩ : ∃ n, N = n + 1 := ⟨N - 1, by omega⟩
  have : W (CL g lf (n + 1) fn_spec_DrawWiresWinner [p] h) fun v h' => ∃ (nodes : Int) (q : PV) (ws : List (Int × Int)) (qo : PV) (os : List Int) (pl : Int), v = .tup [.int .i64 nodes, q, qo, .int .i64 pl] ∧ Keep h.length h h' ∧ WSl h' q ws ∧ ws.length ≤ 8 ∧ 1 ≤ nodes ∧ nodes ≤ 6 ∧ IntSl .i64 h' qo os ∧ os.length ≤ 9 ∧ 1 ≤ pl ∧ pl ≤ 4 := by
    obtain ⟨h1, e1, r1, k1⟩ := open_calls g lf n (by omega) ha
    rw [spec_DrawWiresWinner.call_eq]
    unfold spec_DrawWiresWinner.main
    simp only [env_C, env_bin, env_extract]
    repeat (first | with_reducible refine wbd (by assumption) ?_ | dsimp only)
    refine wcall (owned_W g lf n (by omega) _ (by decide) (by decide) r1 (by omega) hlf) fun v h2 ⟨nodes, q, ws, qo, os, m1, hv, r2, hm, K, w, hw, hn1, hn6, o, ho⟩ => ?_
    subst hv
    obtain ⟨v3, h3, e3, r3, o3, b1, b2, _⟩ := pick_calls g lf n (by omega) 2 r2 (by omega) (by omega)
    obtain ⟨A, rfl⟩ := Int.eq_ofNat_of_zero_le b1
    have hA : A < 2 := by omega
    obtain ⟨v4, h4, e4, r4, o4, c1, c2, _⟩ := pick_calls g lf n (by omega) 40 r3 (by omega) (by omega)
    obtain ⟨B, rfl⟩ := Int.eq_ofNat_of_zero_le c1
    have hB : B < 40 := by omega
    have hB2 : B / 39 ≤ 1 := by omega
    have hq : binP Tryd.prog .quo 3 (.int .i64 (B : Int)) (.int .i64 39) = some (.int .i64 ((B / 39 : Nat) : Int)) := f_quo39 B hB
    have w4 : OwnW h1.length h4 q ws := (w.keepX (o3.x (n := h2.length)) r1.lt (Nat.le_refl _)).keepX (o4.x (n := h3.length)) r1.lt (Nat.le_refl _)
    have q4 : OwnSl h1.length h4 qo os := (o.keepX (o3.x (n := h2.length)) r1.lt (Nat.le_refl _)).keepX (o4.x (n := h3.length)) r1.lt (Nat.le_refl _)
    repeat (first | with_reducible refine wrI ?_ | with_reducible refine wx0 ?_ | with_reducible refine wx1 ?_ | with_reducible refine wx2 ?_ | with_reducible refine wbd (by assumption) ?_ | (with_reducible refine wresW w4 ?_) | (with_reducible refine wresO q4 ?_) | with_reducible refine wadd (by omega) ?_ | with_reducible refine wmul (by omega) ?_ | dsimp only)
    exact W.ret ⟨nodes, q, ws, qo, os, _, rfl, k1.trans (((K.trans (o3.x (n := h1.length))).trans (o4.x (n := h1.length))).keep (Nat.le_of_lt r1.lt)), w4.sl, hw, hn1, hn6, q4.int, ho, by omega, by omega⟩
  obtain ⟨v, h', e, nodes, q, ws, qo, os, pl, rfl, rest⟩ := this
  exact ⟨nodes, q, ws, qo, os, pl, h', e, rest⟩
theorem drawWinningWires_W {p : PV} {ys : List Int} {h : PHeap} (N : Nat) (hN : 8 ≤ N) (ha : Arg h p ys) (hlf : 20 < lf) :
    ∃ (nodes : Int) (q : PV) (ws : List (Int × Int)) (qo : PV) (os : List Int) (pl : Int) (h' : PHeap), CL g lf N fn_spec_DrawWinningWires [p] h = some (.tup [.int .i64 nodes, q, qo, .int .i64 pl], h') ∧ Keep h.length h h' ∧ WSl h' q ws ∧ ws.length ≤ 8 ∧ 1 ≤ nodes ∧ nodes ≤ 6 ∧ IntSl .i64 h' qo os ∧ os.length ≤ 9 ∧ 1 ≤ pl ∧ pl ≤ 4 := by
  obtain ⟨n, rfl⟩ : ∃ n, N = n + 1 := ⟨N - 1, by omega⟩
  obtain ⟨nodes, q, ws, qo, os, pl, h', e, k, rest⟩ := drawWiresWinner_W g lf n (by omega) ha hlf
  refine ⟨nodes, q, ws, qo, os, pl, h', ?_, k, rest⟩
  have : W (CL g lf (n + 1) fn_spec_DrawWinningWires [p] h) fun v h2 => v = .tup [.int .i64 nodes, q, qo, .int .i64 pl] ∧ h2 = h' := by
    rw [spec_DrawWinningWires.call_eq]
    unfold spec_DrawWinningWires.main
    simp only [env_C, env_extract]
    repeat (first | with_reducible refine wrI ?_ | with_reducible refine wx0 ?_ | with_reducible refine wx1 ?_ | with_reducible refine wx2 ?_ | with_reducible refine wx3 ?_ | with_reducible refine wbd (by assumption) ?_ | dsimp only)
    have hq : ∀ f : PV → Res, W (f q) (fun v h2 => v = .tup [.int .i64 nodes, q, qo, .int .i64 pl] ∧ h2 = h') → W ((resV q).bind f) (fun v h2 => v = .tup [.int .i64 nodes, q, qo, .int .i64 pl] ∧ h2 = h') := fun f hf => by
      rcases rest.1 with ⟨rfl, _⟩ | ⟨i, off, rfl, _⟩ <;> exact hf
    have hqo : ∀ f : PV → Res, W (f qo) (fun v h2 => v = .tup [.int .i64 nodes, q, qo, .int .i64 pl] ∧ h2 = h') → W ((resV qo).bind f) (fun v h2 => v = .tup [.int .i64 nodes, q, qo, .int .i64 pl] ∧ h2 = h') := fun f hf => by
      rcases rest.2.2.2.2.1 with ⟨rfl, _⟩ | ⟨i, off, rfl, _⟩ <;> exact hf
    repeat (first | with_reducible refine wrI ?_ | (with_reducible refine hq _ ?_) | (with_reducible refine hqo _ ?_))
    exact W.ret ⟨rfl, rfl⟩
  obtain ⟨_, _, e2, rfl, rfl⟩ := this
  exact e2

end Go.Proofs.YtihlmjapddjjjaaDoor

/- The laws' helpers on slices of wires: copied, compared, marked. -/
set_option maxRecDepth 20000
namespace Go.Proofs.YtihlmjapddjjjaaDoor
open Go Go.Ip G

section
variable {Q : PV → PHeap → Prop} {h : PHeap} {p : PV} {ws : List (Int × Int)}
end

variable (g : Nat → PV) (lf n : Nat)

/-- Between two marks. -/
def OwnWB (n m : Nat) (h : PHeap) (p : PV) (ws : List (Int × Int)) : Prop := (p = .nilsl ∧ ws = []) ∨ ∃ id, n ≤ id ∧ id < m ∧ p = .sl id 0 ws.length ∧ h[id]? = some (.own 2 (wc ws))
theorem OwnW.b {n : Nat} {h : PHeap} {p : PV} {ws : List (Int × Int)} (s : OwnW n h p ws) : OwnWB n h.length h p ws := by
  rcases s with s | ⟨id, h1, h2, h3⟩
  · exact .inl s
  · exact .inr ⟨id, h1, (List.getElem?_eq_some_iff.1 h3).1, h2, h3⟩
theorem OwnWB.sl {n m : Nat} {h : PHeap} {p : PV} {ws : List (Int × Int)} (s : OwnWB n m h p ws) : OwnW n h p ws := by
  rcases s with s | ⟨id, h1, _, h2, h3⟩
  · exact .inl s
  · exact .inr ⟨id, h1, h2, h3⟩
theorem OwnWB.keep {n m : Nat} {h h' : PHeap} {p : PV} {ws : List (Int × Int)} (s : OwnWB n m h p ws) (k : Keep m h h') : OwnWB n m h' p ws := by
  rcases s with s | ⟨id, h1, h2, h3, h4⟩
  · exact .inl s
  · exact .inr ⟨id, h1, h2, h3, by rw [k.2 id h2]; exact h4⟩
end Go.Proofs.YtihlmjapddjjjaaDoor

/- The model's chapter 3, on: the winning cells and the moves played on. -/
set_option maxRecDepth 20000
namespace Go.Proofs.YtihlmjapddjjjaaDoor
open Go Go.Ip G

/-! ### two lists at once: one between two marks, that is written to, and one apart from it, that grows -/
def Apart (b0 b1 b2 : Nat) (h : PHeap) (q : PV) (ys : List Int) : Prop := ∃ n m, OwnB n m h q ys ∧ b0 ≤ n ∧ (m ≤ b1 ∨ b2 ≤ n) ∧ m ≤ h.length
theorem Apart.keep {b0 b1 b2 : Nat} {h h' : PHeap} {q : PV} {ys : List Int} (s : Apart b0 b1 b2 h q ys) (k : Keep h.length h h') : Apart b0 b1 b2 h' q ys := by
  obtain ⟨n, m, o, h1, h2, h3⟩ := s
  exact ⟨n, m, o.keep (k.mono h3), h1, h2, Nat.le_trans h3 k.1⟩
theorem Apart.only {b0 b1 b2 : Nat} {h h' : PHeap} {q : PV} {ys : List Int} (s : Apart b0 b1 b2 h q ys) (k : Only b1 b2 h h') : Apart b0 b1 b2 h' q ys := by
  obtain ⟨n, m, o, h1, h2, h3⟩ := s
  exact ⟨n, m, o.only k (h2.imp id id), h1, h2, by rw [k.1]; exact h3⟩
theorem Apart.sl {b0 b1 b2 : Nat} {h : PHeap} {q : PV} {ys : List Int} (s : Apart b0 b1 b2 h q ys) : OwnSl b0 h q ys := by
  obtain ⟨n, m, o, h1, h2, h3⟩ := s
  exact o.sl.mono h1

theorem OwnB.append {n m : Nat} {h : PHeap} {p : PV} {xs : List Int} (s : OwnB n m h p xs) (hn : n ≤ h.length) (x : Int) (hl : xs.length + 1 ≤ 2 ^ 36) :
    ∃ v p' h', buildSliceP Tryd.prog 30 1 [(0, .int .i64 x)] h = some v ∧ appendP Tryd.prog 30 30 p v.1 v.2 = some (p', h') ∧ OwnSl h.length h' p' (xs ++ [x]) ∧ Keep n h h' ∧
      ∀ a b r zs, OwnB a b h r zs → (b ≤ n ∨ m ≤ a) → OwnB a b h' r zs := by
  have hb : buildSliceP Tryd.prog 30 1 [(0, .int .i64 x)] h = some (.sl h.length 0 1, h ++ [.own 1 [.int .i64 x]]) := by
    simp [buildSliceP, tyElem, tySize, tyZero, repeatCells, fillP, PV.cells, setCells]
  have hsrc : srcP (h ++ [.own 1 [.int .i64 x]]) 1 (.sl h.length 0 1) = some (1, [.int .i64 x]) := by
    simp [srcP, cellsAt, PObj.get]
  rcases s with ⟨rfl, rfl⟩ | ⟨id, h1, h2, rfl, h3⟩
  · refine ⟨_, .sl (h.length + 1) 0 1, h ++ [.own 1 [.int .i64 x]] ++ [.own 1 [.int .i64 x]], hb, ?_, .inr ⟨h.length + 1, by omega, rfl, ?_⟩, ?_, ?_⟩
    · simp [appendP, tyElem, tySize, tySmall, hsrc]
    · rw [List.getElem?_append_right (by simp)]; simp
    · rw [List.append_assoc]; exact Keep.append _ _ _ hn
    · rintro a b r zs (⟨rfl, rfl⟩ | ⟨i, i1, i2, rfl, i3⟩) _
      · exact .inl ⟨rfl, rfl⟩
      · refine .inr ⟨i, i1, i2, rfl, ?_⟩
        have hi : i < h.length := (List.getElem?_eq_some_iff.1 i3).1
        rw [List.append_assoc, List.getElem?_append_left hi]; exact i3
  · have hid : id < h.length := (List.getElem?_eq_some_iff.1 h3).1
    have h3' : (h ++ [PObj.own 1 [.int .i64 x]])[id]? = some (.own 1 (xs.map (.int .i64))) := by rw [List.getElem?_append_left hid]; exact h3
    refine ⟨_, .sl (h.length + 1) 0 (xs.length + 1), ((h ++ [PObj.own 1 [.int .i64 x]]).set id .dead ++ [PObj.own 1 (xs.map (.int .i64) ++ [.int .i64 x])]), hb, ?_, .inr ⟨h.length + 1, by omega, by simp, ?_⟩, ?_, ?_⟩
    · simp [appendP, tyElem, tySize, tySmall, hsrc, h3', hl]
    · rw [List.getElem?_append_right (by simp)]; simp
    · exact ((Keep.append n h _ hn).trans (Keep.set n _ id .dead h1)).trans (Keep.append _ _ _ (by simp; omega))
    · rintro a b r zs (⟨rfl, rfl⟩ | ⟨i, i1, i2, rfl, i3⟩) hd
      · exact .inl ⟨rfl, rfl⟩
      · refine .inr ⟨i, i1, i2, rfl, ?_⟩
        have hi : i < h.length := (List.getElem?_eq_some_iff.1 i3).1
        rw [List.getElem?_append_left (by simp; omega), List.getElem?_set_ne (by omega), List.getElem?_append_left hi]; exact i3

section
variable {Q : PV → PHeap → Prop} {h : PHeap} {p r : PV} {xs zs : List Int} {b0 b1 b2 : Nat}
end

/-! ### winning cells -/
variable (g : Nat → PV) (lf n : Nat)

/-! ### played on -/
end Go.Proofs.YtihlmjapddjjjaaDoor

/- Chapter 3's laws over what the program's functions are asked to compute: the draws, and the exact laws. -/
set_option maxRecDepth 20000
namespace Go.Proofs.YtihlmjapddjjjaaDoor
open Go Go.Ip G

theorem W.yes {x : Res} (hx : W x fun v _ => v = .bool true) : ∃ h', x = some (.bool true, h') := by
  obtain ⟨_, h', e, rfl⟩ := hx; exact ⟨h', e⟩
section
variable {Q : PV → PHeap → Prop} {b : Bool} {f : PV → Res}
theorem wneqBB (hf : W (f (.bool false)) Q) : W ((binP Tryd.prog .neq 4 (.bool b) (.bool b)).bind f) Q := wbd (by rw [neqB]; simp) hf
theorem weqlBB (hf : W (f (.bool true)) Q) : W ((binP Tryd.prog .eql 4 (.bool b) (.bool b)).bind f) Q := wbd (by rw [eqlB]; simp) hf
end
theorem Fix.re {m : Nat} {h h' : PHeap} {p : PV} {xs : List Int} (s : Fix m h p xs) (k : Keep m h h') (hm : m ≤ h.length) : Fix h'.length h' p xs := fun h2 k2 => s h2 (k.trans (k2.mono (Nat.le_trans hm k.1)))
theorem tabF {g : Nat → PV} {h h1 : PHeap} (t : TabOk g h) (k : Keep h.length h h1) : ∀ h2, Keep h1.length h1 h2 → TabOk g h2 := fun _ k2 => (t.keep k).keep k2

variable (g : Nat → PV) (lf n : Nat)

/-! ### the draws -/
end Go.Proofs.YtihlmjapddjjjaaDoor

/- What is asked of the program's functions of chapter 9, and their exact laws. -/
set_option maxRecDepth 20000
namespace Go.Proofs.YtihlmjapddjjjaaDoor
open Go Go.Ip G

def LinksOk (g : Nat → PV) (lf : Nat) : Prop := ∀ (N : Nat), 40 ≤ N → ∀ (nodes set : Int) {ws : List (Int × Int)} {p : PV} {h : PHeap}, TabOk g h → WSl h p ws → ws.length ≤ 2 ^ 35 → ws.length < lf →
  ∃ h', CL g lf N fn_impl_LinksEnds [.int .i64 nodes, p, .int .i64 set] h = some (.bool (linksL nodes ws set), h') ∧ Keep h.length h h'
def WonOk (g : Nat → PV) (lf : Nat) : Prop := ∀ (N : Nat), 40 ≤ N → ∀ (nodes : Int) {ws : List (Int × Int)} {p : PV} {os : List Int} {po : PV} {h : PHeap}, TabOk g h → WSl h p ws → ws.length ≤ 2 ^ 35 → ws.length < lf → IntSl .i64 h po os → os.length ≤ 2 ^ 35 → os.length < lf →
  ∃ h', CL g lf N fn_impl_WiresWon [.int .i64 nodes, p, po] h = some (.int .i64 (wonL nodes ws os), h') ∧ Keep h.length h h'
def WWinOk (g : Nat → PV) (lf : Nat) : Prop := ∀ (N : Nat), 40 ≤ N → ∀ (nodes t : Int) {ws : List (Int × Int)} {p : PV} {os : List Int} {po : PV} {h : PHeap}, TabOk g h → WSl h p ws → ws.length ≤ 2 ^ 35 → ws.length < lf → IntSl .i64 h po os → os.length ≤ 2 ^ 35 → os.length < lf →
  ∃ h', CL g lf N fn_impl_WiresWinner [.int .i64 nodes, p, po, .int .i64 t] h = some (.int .i64 (wwinL nodes ws os t), h') ∧ Keep h.length h h'
def WTakeOk (g : Nat → PV) (lf : Nat) : Prop := ∀ (N : Nat), 40 ≤ N → ∀ (nodes pl : Int) {ws : List (Int × Int)} {p : PV} {os : List Int} {po : PV} {h : PHeap}, TabOk g h → WSl h p ws → ws.length ≤ 2 ^ 35 → ws.length < lf → IntSl .i64 h po os → os.length ≤ 2 ^ 35 → os.length < lf →
  ∃ q h', CL g lf N fn_impl_WinningWires [.int .i64 nodes, p, po, .int .i64 pl] h = some (q, h') ∧ OwnSl h.length h' q (wtakeL nodes ws os pl) ∧ Keep h.length h h'
theorem wtakeL_length (nodes : Int) (ws : List (Int × Int)) (os : List Int) (pl : Int) : (wtakeL nodes ws os pl).length ≤ os.length := by
  unfold wtakeL
  rw [List.length_map]
  have := List.length_filter_le (wtakeB nodes ws os pl) (List.range os.length)
  rwa [List.length_range] at this
variable (g : Nat → PV) (lf n : Nat)

end Go.Proofs.YtihlmjapddjjjaaDoor

/- The laws of chapter 9 over what the program's functions are asked to compute: wires, links, owners, and what is won. -/
set_option maxRecDepth 20000
namespace Go.Proofs.YtihlmjapddjjjaaDoor
open Go Go.Ip G

/-! ### one wire more, with what lies between its two steps -/
theorem OwnW.two {n : Nat} {h : PHeap} {p : PV} {ws : List (Int × Int)} (s : OwnW n h p ws) (hn : n ≤ h.length) (a b : Int) (hl : ws.length + 1 ≤ 2 ^ 36) :
    ∃ v p' h', buildSliceP Tryd.prog 23 1 [(0, .agg [.int .i64 a, .int .i64 b])] h = some v ∧ Keep h.length h v.2 ∧ appendP Tryd.prog 23 23 p v.1 v.2 = some (p', h') ∧ OwnW n h' p' (ws ++ [(a, b)]) ∧ Keep n h h' := by
  have hb : buildSliceP Tryd.prog 23 1 [(0, .agg [.int .i64 a, .int .i64 b])] h = some (.sl h.length 0 1, h ++ [.own 2 [.int .i64 a, .int .i64 b]]) := by
    simp [buildSliceP, twElem, twSize, twZero, repeatCells, fillP, PV.cells, PV.oneCell, setCells]
  have hsrc : srcP (h ++ [.own 2 [.int .i64 a, .int .i64 b]]) 2 (.sl h.length 0 1) = some (1, [.int .i64 a, .int .i64 b]) := by
    simp [srcP, cellsAt, PObj.get]
  rcases s with ⟨rfl, rfl⟩ | ⟨id, h1, rfl, h3⟩
  · refine ⟨_, .sl (h.length + 1) 0 1, h ++ [.own 2 [.int .i64 a, .int .i64 b]] ++ [.own 2 [.int .i64 a, .int .i64 b]], hb, Keep.append _ _ _ (Nat.le_refl _), ?_, .inr ⟨h.length + 1, by omega, rfl, ?_⟩, ?_⟩
    · simp [appendP, twElem, twSize, twSmall, hsrc]
    · rw [List.getElem?_append_right (by simp)]; simp [wc]
    · rw [List.append_assoc]; exact Keep.append _ _ _ hn
  · have hid : id < h.length := (List.getElem?_eq_some_iff.1 h3).1
    have h3' : (h ++ [PObj.own 2 [.int .i64 a, .int .i64 b]])[id]? = some (.own 2 (wc ws)) := by rw [List.getElem?_append_left hid]; exact h3
    refine ⟨_, .sl (h.length + 1) 0 (ws.length + 1), ((h ++ [PObj.own 2 [.int .i64 a, .int .i64 b]]).set id .dead ++ [PObj.own 2 (wc ws ++ [.int .i64 a, .int .i64 b])]), hb, Keep.append _ _ _ (Nat.le_refl _), ?_, .inr ⟨h.length + 1, by omega, by simp, ?_⟩, ?_⟩
    · have := wc_length ws
      simp [appendP, twElem, twSize, twSmall, hsrc, h3', hl, this, Nat.mul_comm]
    · rw [List.getElem?_append_right (by simp)]; simp [wc_append, wc]
    · exact ((Keep.append n h _ hn).trans (Keep.set n _ id .dead h1)).trans (Keep.append _ _ _ (by simp; omega))
/-! ### what holds -/
theorem link_none {nodes : Nat} {vs : List (Nat × Nat)} (hn : NetN nodes vs) : linkW vs 0 = false := by
  cases e : linkW vs 0 with
  | false => rfl
  | true =>
    have h := (link_iff hn).1 e
    have : ∀ v, Conn vs 0 0 v → v = 0 := fun v hv => by
      induction hv with
      | refl => rfl
      | fwd _ _ hs _ _ => rw [Nat.zero_testBit] at hs; cases hs
      | bwd _ _ hs _ _ => rw [Nat.zero_testBit] at hs; cases hs
    have := this 1 h
    cases this

variable (g : Nat → PV) (lf n : Nat)

theorem fnLinksEnds_calls (hLi : LinksOk g lf) {p p2 : PV} {ys zs : List Int} {h : PHeap} (N : Nat) (hN : 45 ≤ N) (ha : Arg h p ys) (hs2 : ∀ h', Keep h.length h h' → IntSl .u8 h' p2 zs) (hz : ∀ b ∈ zs, 0 ≤ b ∧ b ≤ 255) (hlf : 1000 < lf) (ht : TabOk g h) :
    ∃ h', CL g lf N fn_laws_FnLinksEnds [p, p2] h = some (.bool true, h') := by
  obtain ⟨n, rfl⟩ : ∃ n, N = n + 1 := ⟨N - 1, by omega⟩
  apply W.yes
  rw [laws_FnLinksEnds.call_eq]
  unfold laws_FnLinksEnds.main
  simp only [env_C, env_pick, env_load, env_bin, env_un, env_conv, env_indexAddr, env_extract, env_len]
  have hlenp : lenP Tryd.prog 22 p = some (.int .i64 ys.length) := (ha.1 h (Keep.refl _ _)).len tyB
  have hlenp2 : lenP Tryd.prog 22 p2 = some (.int .i64 zs.length) := (hs2 h (Keep.refl _ _)).len tyB
  by_cases hbig : (1048576 : Int) < (ys.length : Int)
  · repeat (first | with_reducible refine wT ?_ | with_reducible refine wg0 rfl ?_ | with_reducible refine wpT ?_ | with_reducible refine wsm ?_ | with_reducible refine wrB ?_ | with_reducible refine wbd (by assumption) ?_ | with_reducible refine wgtrT (by omega) ?_ | dsimp only)
    exact W.ret rfl
  by_cases hbig2 : (1048576 : Int) < (zs.length : Int)
  · repeat (first | with_reducible refine wT ?_ | with_reducible refine wg1 rfl ?_ | with_reducible refine wpF ?_ | with_reducible refine wpv ?_ | with_reducible refine wsm ?_ | with_reducible refine wrB ?_ | with_reducible refine wbd (by assumption) ?_ | with_reducible refine wgtrT (by omega) ?_ | with_reducible refine wgtrF (by omega) ?_ | dsimp only)
    exact W.ret rfl
  obtain ⟨nodes, q, ws, S, h1, e1, k1, hq0, hl, hn1, hn6, hS⟩ := drawLinksEnds_W g lf n (by omega) ha (by omega)
  have htF := tabF ht k1
  have hw : FixW h1.length h1 q ws := hq0.fix
  have hal : ∀ h2, CL g lf n fn_laws_alive [] h2 = some (.bool true, h2) := fun h2 => alive_calls g lf n (by omega) h2
  obtain ⟨h2, e2, k2⟩ := hLi n (by omega) nodes (S : Int) (htF _ (Keep.refl _ _)) hq0 (by omega) (by omega)
  obtain ⟨h3, e3, k3⟩ := specLinks_calls g lf n (by omega) nodes (S : Int) (hw.get k2) (by omega) (by omega) hlf
  have K3 : Keep h1.length h1 h3 := k2.trans (k3.mono k2.1)
  obtain ⟨h4, e4, k4⟩ := specWiresOk_calls g lf n (by omega) nodes (hw.get K3) (by omega) (by omega)
  have K4 : Keep h1.length h1 h4 := K3.trans (k4.mono K3.1)
  have hlw := (hw.get K4).len
  have h28 : 2 ^ ws.length ≤ 256 := Nat.pow_le_pow_right (n := 2) (by decide) hl
  have h21 : 1 ≤ 2 ^ ws.length := Nat.one_le_two_pow
  cases hwb : wiresB nodes ws with
  | false =>
    have : linksL nodes ws (S : Int) = false := by unfold linksL; rw [hwb]; rfl
    rw [this] at e2 e3
    rw [hwb] at e4
    repeat (first | with_reducible refine wT ?_ | with_reducible refine wF ?_ | with_reducible refine wg1 rfl ?_ | with_reducible refine wg0 rfl ?_ | with_reducible refine wpT ?_ | with_reducible refine wpF ?_ | with_reducible refine wnF ?_ | with_reducible refine wpv ?_ | with_reducible refine wsm ?_ | with_reducible refine wrB ?_ | with_reducible refine wx0 ?_ | with_reducible refine wx1 ?_ | with_reducible refine wx2 ?_ | with_reducible refine wbd (by assumption) ?_ | (with_reducible refine wneqBB ?_) | (with_reducible refine wbd (hal _) ?_) | with_reducible refine wgtrF (by omega) ?_ | dsimp only)
    exact W.ret rfl
  | true =>
  rw [hwb] at e4
  by_cases hSl : S < 2 ^ ws.length
  · obtain ⟨M, hM, hws, hnet⟩ := wires_of hwb
    have hlk : ∀ Z : Nat, Z < 2 ^ ws.length → linksL nodes ws (Z : Int) = linkW (natW ws) Z := fun Z hZ => by
      unfold linksL
      rw [hwb, decide_eq_true (by omega : (0 : Int) ≤ (Z : Int) ∧ (Z : Int) < ((2 ^ ws.length : Nat) : Int))]; rfl
    have h0 := hlk 0 (by omega)
    rw [link_none hnet] at h0
    have hsh : ¬ ((1 <<< ws.length : Nat) : Int) ≤ (S : Int) := by rw [Nat.one_shiftLeft]; omega
    rw [hlk S hSl] at e2 e3
    by_cases hz0 : 0 < zs.length
    · obtain ⟨a0, ea0, la0⟩ := (hs2 h4 (k1.trans (K4.mono k1.1))).at (T := 22) (I := 5) tyB tyBSize tyBAgg hz0
      have ea0 : indexAddrP Tryd.prog 22 p2 (.int .i64 0) = some a0 := ea0
      obtain ⟨b0, hb0⟩ : ∃ b, b = zs[0] := ⟨_, rfl⟩
      have hbr := hz zs[0] (List.getElem_mem hz0)
      rw [← hb0] at la0 hbr
      obtain ⟨b, rfl⟩ := Int.eq_ofNat_of_zero_le hbr.1
      have hconv : convP Tryd.prog 5 3 (.int .u8 (b : Int)) = some (.int .i64 (b : Int)) := by rw [conv_byte, wr (by omega)]
      obtain ⟨U, hU⟩ : ∃ U, U = (S ||| b) &&& (1 <<< ws.length - 1) := ⟨_, rfl⟩
      have hUl : U < 2 ^ ws.length := by
        rw [hU, Nat.one_shiftLeft]
        exact Nat.lt_of_le_of_lt Nat.and_le_right (by omega)
      have hup : linkW (natW ws) S = true → linkW (natW ws) U = true := link_mono hnet fun j hj => by
        have hjl : j < ws.length := by
          rcases Nat.lt_or_ge j ws.length with hh | hh
          · exact hh
          · rw [Nat.testBit_lt_two_pow (Nat.lt_of_lt_of_le hSl (Nat.pow_le_pow_right (by decide) hh))] at hj; cases hj
        rw [hU, Nat.testBit_and, Nat.testBit_or, hj, Bool.true_or, Bool.true_and, Nat.one_shiftLeft, Nat.testBit_two_pow_sub_one, decide_eq_true hjl]
      have hS62 : S < 2 ^ 62 := by omega
      have hb62 : b < 2 ^ 62 := by omega
      have ho62 : S ||| b < 2 ^ 62 := Nat.or_lt_two_pow hS62 hb62
      have hm62 : 1 <<< ws.length - 1 < 2 ^ 62 := by rw [Nat.one_shiftLeft]; omega
      have h1s : 1 ≤ 1 <<< ws.length := by rw [Nat.one_shiftLeft]; omega
      have h1t : 1 <<< ws.length < 4611686018427387904 := by rw [Nat.one_shiftLeft]; omega
      obtain ⟨h5, e5, k5⟩ := hLi n (by omega) nodes (U : Int) (htF _ K4) (hw.get K4) (by omega) (by omega)
      have K5 : Keep h1.length h1 h5 := K4.trans (k5.mono K4.1)
      rw [hlk U hUl] at e5
      obtain ⟨h6, e6, k6⟩ := hLi n (by omega) nodes 0 (htF _ K5) (hw.get K5) (by omega) (by omega)
      obtain ⟨h7, e7, k7⟩ := hLi n (by omega) nodes 0 (htF _ K4) (hw.get K4) (by omega) (by omega)
      rw [show linksL nodes ws 0 = false from h0] at e6 e7
      cases hs : linkW (natW ws) S with
      | false =>
        rw [hs] at e2 e3
        repeat (first | with_reducible refine wT ?_ | with_reducible refine wF ?_ | with_reducible refine wg1 rfl ?_ | with_reducible refine wg0 rfl ?_ | with_reducible refine wpT ?_ | with_reducible refine wpF ?_ | with_reducible refine wnT ?_ | with_reducible refine wnF ?_ | with_reducible refine wpv ?_ | with_reducible refine wsm ?_ | with_reducible refine wrB ?_ | with_reducible refine wx0 ?_ | with_reducible refine wx1 ?_ | with_reducible refine wx2 ?_ | with_reducible refine wbd (by assumption) ?_ | (with_reducible refine wneqBB ?_) | (with_reducible refine wbd (hal _) ?_) | with_reducible refine wsub1 (by omega) (by omega) ?_ | with_reducible refine wshl (by omega) ?_ | with_reducible refine wand (by omega) (by omega) ?_ | with_reducible refine wor (by omega) (by omega) ?_ | with_reducible refine wgtrT (by omega) ?_ | with_reducible refine wgtrF (by omega) ?_ | with_reducible refine wgeqF (by omega) ?_ | dsimp only)
        exact W.ret rfl
      | true =>
        rw [hs] at e2 e3
        rw [hup hs] at e5
        repeat (first | with_reducible refine wT ?_ | with_reducible refine wF ?_ | with_reducible refine wg1 rfl ?_ | with_reducible refine wpT ?_ | with_reducible refine wpF ?_ | with_reducible refine wnT ?_ | with_reducible refine wnF ?_ | with_reducible refine wpv ?_ | with_reducible refine wsm ?_ | with_reducible refine wrB ?_ | with_reducible refine wx0 ?_ | with_reducible refine wx1 ?_ | with_reducible refine wx2 ?_ | with_reducible refine wbd (by assumption) ?_ | (with_reducible refine wneqBB ?_) | (with_reducible refine wbd (hal _) ?_) | (rw [← hU]) | with_reducible refine wsub1 (by omega) (by omega) ?_ | with_reducible refine wshl (by omega) ?_ | with_reducible refine wand (by omega) (by omega) ?_ | with_reducible refine wor (by omega) (by omega) ?_ | with_reducible refine wgtrT (by omega) ?_ | with_reducible refine wgtrF (by omega) ?_ | with_reducible refine wgeqF (by omega) ?_ | dsimp only)
        exact W.ret rfl
    · have hzl : ¬ (0 : Int) < (zs.length : Int) := by omega
      obtain ⟨h5, e5, k5⟩ := hLi n (by omega) nodes (S : Int) (htF _ K4) (hw.get K4) (by omega) (by omega)
      have K5 : Keep h1.length h1 h5 := K4.trans (k5.mono K4.1)
      rw [hlk S hSl] at e5
      obtain ⟨h6, e6, k6⟩ := hLi n (by omega) nodes 0 (htF _ K5) (hw.get K5) (by omega) (by omega)
      obtain ⟨h7, e7, k7⟩ := hLi n (by omega) nodes 0 (htF _ K4) (hw.get K4) (by omega) (by omega)
      rw [show linksL nodes ws 0 = false from h0] at e6 e7
      cases hs : linkW (natW ws) S with
      | false =>
        rw [hs] at e2 e3
        repeat (first | with_reducible refine wF ?_ | with_reducible refine wg1 rfl ?_ | with_reducible refine wg0 rfl ?_ | with_reducible refine wpT ?_ | with_reducible refine wpF ?_ | with_reducible refine wnT ?_ | with_reducible refine wnF ?_ | with_reducible refine wpv ?_ | with_reducible refine wsm ?_ | with_reducible refine wrB ?_ | with_reducible refine wx0 ?_ | with_reducible refine wx1 ?_ | with_reducible refine wx2 ?_ | with_reducible refine wbd (by assumption) ?_ | (with_reducible refine wneqBB ?_) | (with_reducible refine wbd (hal _) ?_) | with_reducible refine wshl (by omega) ?_ | with_reducible refine wgtrF (by omega) ?_ | with_reducible refine wgeqF (by omega) ?_ | dsimp only)
        exact W.ret rfl
      | true =>
        rw [hs] at e2 e3 e5
        repeat (first | with_reducible refine wF ?_ | with_reducible refine wg1 rfl ?_ | with_reducible refine wpT ?_ | with_reducible refine wpF ?_ | with_reducible refine wnT ?_ | with_reducible refine wnF ?_ | with_reducible refine wpv ?_ | with_reducible refine wsm ?_ | with_reducible refine wrB ?_ | with_reducible refine wx0 ?_ | with_reducible refine wx1 ?_ | with_reducible refine wx2 ?_ | with_reducible refine wbd (by assumption) ?_ | (with_reducible refine wneqBB ?_) | (with_reducible refine wbd (hal _) ?_) | with_reducible refine wshl (by omega) ?_ | with_reducible refine wgtrF (by omega) ?_ | with_reducible refine wgeqF (by omega) ?_ | dsimp only)
        exact W.ret rfl
  · have : linksL nodes ws (S : Int) = false := by
      unfold linksL
      rw [decide_eq_false (by omega : ¬ ((0 : Int) ≤ (S : Int) ∧ (S : Int) < ((2 ^ ws.length : Nat) : Int))), Bool.and_false]; rfl
    rw [this] at e2 e3
    have hsh : ((1 <<< ws.length : Nat) : Int) ≤ (S : Int) := by rw [Nat.one_shiftLeft]; omega
    repeat (first | with_reducible refine wT ?_ | with_reducible refine wF ?_ | with_reducible refine wg1 rfl ?_ | with_reducible refine wpT ?_ | with_reducible refine wpF ?_ | with_reducible refine wnT ?_ | with_reducible refine wnF ?_ | with_reducible refine wpv ?_ | with_reducible refine wsm ?_ | with_reducible refine wrB ?_ | with_reducible refine wx0 ?_ | with_reducible refine wx1 ?_ | with_reducible refine wx2 ?_ | with_reducible refine wbd (by assumption) ?_ | (with_reducible refine wneqBB ?_) | (with_reducible refine wbd (hal _) ?_) | with_reducible refine wshl (by omega) ?_ | with_reducible refine wgtrF (by omega) ?_ | with_reducible refine wgeqT (by omega) ?_ | dsimp only)
    exact W.ret rfl

/-- All free wires given to a player. -/
def fillO (pl : Int) (os : List Int) : List Int := os.map fun x => if x = 0 then pl else x
theorem fillO_get {pl : Int} {os : List Int} (k : Nat) : (fillO pl os)[k]? = (os[k]?).map fun x => if x = 0 then pl else x := by unfold fillO; rw [List.getElem?_map]
theorem fill_owners {nodes : Int} {ws : List (Int × Int)} {os : List Int} {P : Nat} (hP : P = 1 ∨ P = 2) (h : ownersB nodes ws os = true) : ownersB nodes ws (fillO (P : Int) os) = true := by
  unfold ownersB at h ⊢
  unfold fillO
  rw [List.length_map]
  rw [Bool.and_eq_true] at h ⊢
  refine ⟨List.all_eq_true.2 fun x hx => ?_, h.2⟩
  obtain ⟨y, hy, rfl⟩ := List.mem_map.1 hx
  split
  · rcases hP with rfl | rfl <;> rfl
  · exact List.all_eq_true.1 h.1 y hy
/-- With all wires taken each player has what the other one has not. -/
theorem full_compl {os : List Int} (h9 : os.length ≤ 9) (hc : ∀ x ∈ os, x = 1 ∨ x = 2) : 2 ^ os.length - 1 - setL os 2 = setL os 1 := by
  have hlt : setL os 2 < 2 ^ os.length := setL_lt 2 (Nat.le_refl os.length)
  apply Nat.eq_of_testBit_eq
  intro j
  rw [compl_bit hlt, Bool.eq_iff_iff, Bool.and_eq_true, decide_eq_true_eq, Bool.not_eq_true', setL_bit]
  constructor
  · rintro ⟨hj, hn⟩
    have hn2 : ¬ os[j]? = some 2 := fun hh => by rw [setL_bit.2 hh] at hn; cases hn
    rw [List.getElem?_eq_getElem hj] at hn2 ⊢
    rcases hc os[j] (List.getElem_mem hj) with e | e
    · rw [e]
    · exact absurd (congrArg some e) hn2
  · intro h
    have hj := (List.getElem?_eq_some_iff.1 h).1
    refine ⟨hj, ?_⟩
    cases e : (setL os 2).testBit j with
    | false => rfl
    | true =>
      have := setL_bit.1 e
      rw [h] at this
      cases this
theorem won_full {N P : Nat} {vs : List (Nat × Nat)} {os : List Int} (hn : NetN N vs) (hl : os.length = vs.length) (hc : os.all contentB = true) (hP : P = 1 ∨ P = 2) :
    (doneN vs (setL (fillO (P : Int) os) 1) (setL (fillO (P : Int) os) 2) = 1 ∨ doneN vs (setL (fillO (P : Int) os) 1) (setL (fillO (P : Int) os) 2) = 2) ∧
    (doneN vs (setL os 1) (setL os 2) ≠ 0 → doneN vs (setL (fillO (P : Int) os) 1) (setL (fillO (P : Int) os) 2) = doneN vs (setL os 1) (setL os 2)) := by
  have h9 : os.length ≤ 9 := by have := hn.2.2.1; omega
  have hfl : (fillO (P : Int) os).length = os.length := by unfold fillO; rw [List.length_map]
  have hfc : ∀ x ∈ fillO (P : Int) os, x = 1 ∨ x = 2 := fun x hx => by
    obtain ⟨y, hy, rfl⟩ := List.mem_map.1 hx
    have hcy := List.all_eq_true.1 hc y hy
    unfold contentB at hcy
    have := of_decide_eq_true hcy
    split <;> omega
  have hcompl := full_compl (by rw [hfl]; exact h9) hfc
  rw [hfl] at hcompl
  have hcut : cutW vs (setL (fillO (P : Int) os) 2) = !linkW vs (setL (fillO (P : Int) os) 1) := by unfold cutW; rw [← hl, hcompl]
  have hone : doneN vs (setL (fillO (P : Int) os) 1) (setL (fillO (P : Int) os) 2) = if linkW vs (setL (fillO (P : Int) os) 1) = true then 1 else 2 := by
    unfold doneN
    rw [hcut]
    cases linkW vs (setL (fillO (P : Int) os) 1) <;> rfl
  rw [hone]
  refine ⟨by split <;> simp, fun h0 => ?_⟩
  have hsub : ∀ j, (setL os 1).testBit j = true → (setL (fillO (P : Int) os) 1).testBit j = true := fun j hj => by
    rw [setL_bit] at hj ⊢
    rw [fillO_get, hj]; rfl
  have hsub2 : ∀ j, (setL os 2).testBit j = true → (setL (fillO (P : Int) os) 2).testBit j = true := fun j hj => by
    rw [setL_bit] at hj ⊢
    rw [fillO_get, hj]; rfl
  unfold doneN at h0 ⊢
  cases h1 : linkW vs (setL os 1) with
  | true => rw [link_mono hn hsub h1]; rfl
  | false =>
    rw [h1] at h0
    cases h2 : cutW vs (setL os 2) with
    | false => rw [h2] at h0; exact absurd rfl h0
    | true =>
      have h3 : cutW vs (setL (fillO (P : Int) os) 2) = true := (wire_game hn).mono2 _ _ (by rw [← hl]; exact setL_lt 2 (Nat.le_refl os.length)) (by rw [← hl, ← hfl]; exact setL_lt 2 (Nat.le_refl _)) hsub2 h2
      rw [hcut, Bool.not_eq_true'] at h3
      rw [h3]; rfl

theorem fnWiresWon_calls (hWo : WonOk g lf) {p : PV} {ys : List Int} {h : PHeap} (N : Nat) (hN : 45 ≤ N) (ha : Arg h p ys) (hlf : 1000 < lf) (ht : TabOk g h) :
    ∃ h', CL g lf N fn_laws_FnWiresWon [p] h = some (.bool true, h') := by
  obtain ⟨n, rfl⟩ : ∃ n, N = n + 1 := ⟨N - 1, by omega⟩
  apply W.yes
  rw [laws_FnWiresWon.call_eq]
  unfold laws_FnWiresWon.main
  simp only [env_C, env_lf, env_pick, env_bin, env_un, env_extract, env_len]
  have hlenp : lenP Tryd.prog 22 p = some (.int .i64 ys.length) := (ha.1 h (Keep.refl _ _)).len tyB
  by_cases hbig : (1048576 : Int) < (ys.length : Int)
  · repeat (first | with_reducible refine wT ?_ | with_reducible refine wrB ?_ | with_reducible refine wbd (by assumption) ?_ | with_reducible refine wgtrT (by omega) ?_)
    exact W.ret rfl
  obtain ⟨nodes, q, ws, qo, os, h1, e1, k1, hq0, hl, hn1, hn6, ho0, hol⟩ := drawWiresWon_W g lf n (by omega) ha (by omega)
  have htF := tabF ht k1
  have hw : FixW h1.length h1 q ws := hq0.fix
  have ho : Fix h1.length h1 qo os := ho0.fix
  have hal : ∀ h2, CL g lf n fn_laws_alive [] h2 = some (.bool true, h2) := fun h2 => alive_calls g lf n (by omega) h2
  obtain ⟨h2, e2, k2⟩ := hWo n (by omega) nodes (htF _ (Keep.refl _ _)) hq0 (by omega) (by omega) ho0 (by omega) (by omega)
  obtain ⟨h3, e3, k3⟩ := specWon_calls g lf n (by omega) nodes (hw.get k2) (by omega) (by omega) (ho _ k2) (by omega) (by omega) hlf
  have K3 : Keep h1.length h1 h3 := k2.trans (k3.mono k2.1)
  obtain ⟨h4, e4, k4⟩ := specOwners_calls g lf n (by omega) nodes (hw.get K3) (by omega) (by omega) (ho _ K3) (by omega) (by omega)
  have K4 : Keep h1.length h1 h4 := K3.trans (k4.mono K3.1)
  cases hob : ownersB nodes ws os with
  | false =>
    have : wonL nodes ws os = 0 := by unfold wonL; rw [hob]; rfl
    rw [this] at e2 e3
    rw [hob] at e4
    repeat (first | with_reducible refine wT ?_ | with_reducible refine wF ?_ | with_reducible refine wg1 rfl ?_ | with_reducible refine wpT ?_ | with_reducible refine wnF ?_ | with_reducible refine wrB ?_ | with_reducible refine wx0 ?_ | with_reducible refine wx1 ?_ | with_reducible refine wx2 ?_ | with_reducible refine wbd (by assumption) ?_ | (with_reducible refine wbd (hal _) ?_) | with_reducible refine wgtrF (by omega) ?_ | with_reducible refine weqlT (by omega) ?_ | with_reducible refine wneqF (by omega) ?_ | dsimp only)
    exact W.ret rfl
  | true =>
  rw [hob] at e4
  have hob' := hob
  unfold ownersB at hob'
  rw [Bool.and_eq_true, Bool.and_eq_true, decide_eq_true_eq] at hob'
  obtain ⟨hcont, hwb, hlen⟩ := hob'
  obtain ⟨M, hM, hws, hnet⟩ := wires_of hwb
  have hlv : os.length = (natW ws).length := by rw [natW_length]; exact hlen
  have hV : wonL nodes ws os = ((doneN (natW ws) (setL os 1) (setL os 2) : Nat) : Int) := by unfold wonL; rw [hob]; rfl
  obtain ⟨V, hVd⟩ : ∃ V, V = doneN (natW ws) (setL os 1) (setL os 2) := ⟨_, rfl⟩
  rw [hV, ← hVd] at e2 e3
  repeat (first | with_reducible refine wF ?_ | with_reducible refine wnT ?_ | with_reducible refine wx0 ?_ | with_reducible refine wx1 ?_ | with_reducible refine wx2 ?_ | with_reducible refine wbd (by assumption) ?_ | with_reducible refine wgtrF (by omega) ?_ | with_reducible refine wneqF (by omega) ?_ | dsimp only)
  refine loopW (fun m st => ∃ (P : Nat) (h5 : PHeap), st = laws_FnWiresWon.st0 (.int .i64 nodes) q qo (.int .i64 (V : Int)) (.int .i64 (P : Int)) h5 ∧ P + m = 3 ∧ 1 ≤ P ∧ Keep h1.length h1 h5) ?_ lf 2 _ (by omega)
    ⟨1, h4, rfl, by omega, by omega, K4⟩
  rintro n1 m st ⟨P, h5, rfl, hPm, hP1, K5⟩ next
  rw [laws_FnWiresWon.body0_eq]
  unfold laws_FnWiresWon.body0
  simp only [env_lf, env_buildSlice, env_bin]
  by_cases hP : P ≤ 2
  · repeat (first | with_reducible refine wT ?_ | with_reducible refine wleqT (by omega) ?_)
    refine wempty fun q0 h6 o6 k6 => ?_
    have K6 : Keep h1.length h1 h6 := K5.trans (k6.mono K5.1)
    dsimp only
    refine loopW (fun m st => ∃ (i : Nat) (q2 : PV) (h7 : PHeap), st = laws_FnWiresWon.st1 (.int .i64 nodes) q qo (.int .i64 (V : Int)) (.int .i64 (P : Int)) q2 (.int .i64 (i : Int)) h7 ∧ i + m = os.length ∧ OwnSl h5.length h7 q2 (fillO (P : Int) (os.take i)) ∧ Keep h5.length h6 h7) ?_ lf os.length _ (by omega)
      ⟨0, q0, h6, rfl, by omega, o6, Keep.refl _ _⟩
    rintro n2 m2 st2 ⟨i, q2, h7, rfl, him, o7, k7⟩ next2
    have K7 : Keep h1.length h1 h7 := K6.trans (k7.mono K5.1)
    have i7 := ho _ K7
    have hl7 := i7.len'
    rw [laws_FnWiresWon.body1_eq]
    unfold laws_FnWiresWon.body1
    simp only [env_buildSlice, env_load, env_bin, env_indexAddr, env_len, env_append]
    by_cases hi : i < os.length
    · obtain ⟨a, ea, la⟩ := i7.at' hi
      have hstep : fillO (P : Int) (os.take (i + 1)) = fillO (P : Int) (os.take i) ++ [if os[i] = 0 then (P : Int) else os[i]] := by unfold fillO; rw [List.take_succ_eq_append_getElem hi, List.map_append]; rfl
      have hlt : (fillO (P : Int) (os.take i)).length + 1 ≤ 2 ^ 36 := by unfold fillO; rw [List.length_map, List.length_take]; omega
      obtain ⟨x, hx⟩ : ∃ x, x = os[i] := ⟨_, rfl⟩
      rw [← hx] at la hstep
      by_cases h0x : x = 0
      · rw [if_pos h0x] at hstep
        repeat (first | with_reducible refine wT ?_ | with_reducible refine wbd (by assumption) ?_ | with_reducible refine wlssT (by omega) ?_ | with_reducible refine weqlT (by omega) ?_)
        refine wap o7 (Nat.le_trans k6.1 k7.1) hlt fun q8 h8 o8 k8 => ?_
        repeat (first | with_reducible refine wadd1 (by omega) ?_ | dsimp only)
        exact next2 _ _ (show m2 - 1 < m2 by omega) ⟨i + 1, q8, h8, rfl, by omega, by rw [hstep]; exact o8, k7.trans k8⟩
      · rw [if_neg h0x] at hstep
        repeat (first | with_reducible refine wT ?_ | with_reducible refine wF ?_ | with_reducible refine wbd (by assumption) ?_ | with_reducible refine wlssT (by omega) ?_ | with_reducible refine weqlF (by omega) ?_)
        refine wap o7 (Nat.le_trans k6.1 k7.1) hlt fun q8 h8 o8 k8 => ?_
        repeat (first | with_reducible refine wadd1 (by omega) ?_ | dsimp only)
        exact next2 _ _ (show m2 - 1 < m2 by omega) ⟨i + 1, q8, h8, rfl, by omega, by rw [hstep]; exact o8, k7.trans k8⟩
    · have hie : i = os.length := by omega
      rw [hie, List.take_length] at o7
      have hfl : (fillO (P : Int) os).length = os.length := by unfold fillO; rw [List.length_map]
      obtain ⟨h8, e8, k8⟩ := hWo n (by omega) nodes (htF _ K7) (hw.get K7) (by omega) (by omega) o7.int (by rw [hfl]; omega) (by rw [hfl]; omega)
      have K8 : Keep h1.length h1 h8 := K7.trans (k8.mono K7.1)
      have hPP : P = 1 ∨ P = 2 := by omega
      have hwf := won_full hnet hlv hcont hPP
      have hW8 : wonL nodes ws (fillO (P : Int) os) = ((doneN (natW ws) (setL (fillO (P : Int) os) 1) (setL (fillO (P : Int) os) 2) : Nat) : Int) := by unfold wonL; rw [fill_owners hPP hob]; rfl
      obtain ⟨U, hU⟩ : ∃ U, U = doneN (natW ws) (setL (fillO (P : Int) os) 1) (setL (fillO (P : Int) os) 2) := ⟨_, rfl⟩
      rw [hW8, ← hU] at e8
      rw [← hU, ← hVd] at hwf
      clear hU hVd hV hW8
      by_cases hV0 : V = 0
      · repeat (first | with_reducible refine wF ?_ | with_reducible refine wg1 rfl ?_ | with_reducible refine wg0 rfl ?_ | with_reducible refine wpF ?_ | with_reducible refine wpv ?_ | with_reducible refine wsm ?_ | with_reducible refine wbd (by assumption) ?_ | with_reducible refine wadd1 (by omega) ?_ | with_reducible refine wlssF (by omega) ?_ | with_reducible refine weqlF (by omega) ?_ | with_reducible refine wneqF (by omega) ?_ | rw [kLoop_exit] | rw [laws_FnWiresWon.after1_se2_3_4_5_6_7_8_9_49] | dsimp only | simp only [env_C, env_Y, env_g, env_lf, env_pick, env_alloc, env_box, env_build, env_buildSlice, env_load, env_store, env_ptr, env_bin, env_un, env_conv, env_make, env_slice, env_fieldAddr, env_field, env_indexAddr, env_index, env_extract, env_len, env_append, env_max, env_min, env_makeMap, env_lookup, env_update, env_clos, env_bstr])
        exact next _ _ (show m - 1 < m by omega) ⟨P + 1, h8, rfl, by omega, by omega, K8⟩
      · have hUV := hwf.2 hV0
        repeat (first | with_reducible refine wF ?_ | with_reducible refine wg1 rfl ?_ | with_reducible refine wpT ?_ | with_reducible refine wpF ?_ | with_reducible refine wpv ?_ | with_reducible refine wsm ?_ | with_reducible refine wbd (by assumption) ?_ | with_reducible refine wadd1 (by omega) ?_ | with_reducible refine wlssF (by omega) ?_ | with_reducible refine weqlF (by omega) ?_ | with_reducible refine wneqT (by omega) ?_ | with_reducible refine wneqF (by omega) ?_ | rw [kLoop_exit] | rw [laws_FnWiresWon.after1_se2_3_4_5_6_7_8_9_49] | dsimp only | simp only [env_C, env_Y, env_g, env_lf, env_pick, env_alloc, env_box, env_build, env_buildSlice, env_load, env_store, env_ptr, env_bin, env_un, env_conv, env_make, env_slice, env_fieldAddr, env_field, env_indexAddr, env_index, env_extract, env_len, env_append, env_max, env_min, env_makeMap, env_lookup, env_update, env_clos, env_bstr])
        exact next _ _ (show m - 1 < m by omega) ⟨P + 1, h8, rfl, by omega, by omega, K8⟩
  · repeat (first | with_reducible refine wF ?_ | with_reducible refine wrB ?_ | (with_reducible refine wbd (hal _) ?_) | with_reducible refine wleqF (by omega) ?_ | rw [kLoop_exit] | rw [laws_FnWiresWon.after0_se0_3_4_5_6_7_42] | dsimp only | simp only [env_C, env_Y, env_g, env_lf, env_pick, env_alloc, env_box, env_build, env_buildSlice, env_load, env_store, env_ptr, env_bin, env_un, env_conv, env_make, env_slice, env_fieldAddr, env_field, env_indexAddr, env_index, env_extract, env_len, env_append, env_max, env_min, env_makeMap, env_lookup, env_update, env_clos, env_bstr])
    exact W.ret rfl

/-- A free wire more for the winner changes nothing. -/
theorem wwin_set {nodes : Int} {ws : List (Int × Int)} {os : List Int} {T V i : Nat} (hob : ownersB nodes ws os = true) (hT : T = 1 ∨ T = 2) (hV : V = 1 ∨ V = 2) (hi : os[i]? = some 0) (hw : wwinL nodes ws os (T : Int) = (V : Int)) :
    ownersB nodes ws (os.set i (V : Int)) = true ∧ wwinL nodes ws (os.set i (V : Int)) (T : Int) = (V : Int) := by
  have hob' := hob
  unfold ownersB at hob'
  rw [Bool.and_eq_true, Bool.and_eq_true, decide_eq_true_eq] at hob'
  obtain ⟨hcont, hwb, hlen⟩ := hob'
  obtain ⟨M, hM, hws, hnet⟩ := wires_of hwb
  have hil : i < os.length := (List.getElem?_eq_some_iff.1 hi).1
  have hos : ownersB nodes ws (os.set i (V : Int)) = true := by
    unfold ownersB
    rw [List.length_set, hwb, decide_eq_true hlen, Bool.and_true, Bool.and_true]
    refine List.all_eq_true.2 fun x hx => ?_
    rcases List.mem_or_eq_of_mem_set hx with h | rfl
    · exact List.all_eq_true.1 hcont x h
    · rcases hV with rfl | rfl <;> rfl
  refine ⟨hos, ?_⟩
  unfold wwinL at hw ⊢
  rw [hob, playerB_of hT] at hw
  rw [hos, playerB_of hT]
  simp only [Bool.and_self, if_true, Int.toNat_natCast] at hw ⊢
  have hw' : gWin ws.length (linkW (natW ws)) (cutW (natW ws)) (setL os 1) (setL os 2) T = V := by omega
  obtain ⟨s1, s2⟩ := set_putA hV hi
  rw [s1, s2]
  have hG : Game ws.length (linkW (natW ws)) (cutW (natW ws)) := by
    have := wire_game hnet
    rwa [natW_length] at this
  have hp := gpos_of (os := os) hlen
  have hf : (setL os 1 ||| setL os 2).testBit i = false := by
    rw [Nat.testBit_or, Bool.or_eq_false_iff]
    constructor
    · cases e : (setL os 1).testBit i with
      | false => rfl
      | true => have := setL_bit.1 e; rw [hi] at this; cases this
    · cases e : (setL os 2).testBit i with
      | false => rfl
      | true => have := setL_bit.1 e; rw [hi] at this; cases this
  have hp' := hp.put (t := V) (by omega : i < ws.length) hf
  congr 1
  rcases hV with rfl | rfl
  · exact gw_mono hG hp hp' ⟨fun j hj => by unfold putA; rw [if_pos rfl, with_bit, hj]; rfl, fun j hj => by unfold putB at hj; rwa [if_pos rfl] at hj⟩ hT hw'
  · exact gw_mono2 hG hp' hp ⟨fun j hj => by unfold putA at hj; rwa [if_neg (by decide)] at hj, fun j hj => by unfold putB; rw [if_neg (by decide), with_bit, hj]; rfl⟩ hT hw'
/-- Who wins if the other one is to move wins to move as well. -/
theorem wwin_move {nodes : Int} {ws : List (Int × Int)} {os : List Int} {T V : Nat} (hob : ownersB nodes ws os = true) (hT : T = 1 ∨ T = 2) (hV : V = 1 ∨ V = 2) (hne : V ≠ T) (hw : wwinL nodes ws os (T : Int) = (V : Int)) : wwinL nodes ws os (V : Int) = (V : Int) := by
  have hob' := hob
  unfold ownersB at hob'
  rw [Bool.and_eq_true, Bool.and_eq_true, decide_eq_true_eq] at hob'
  obtain ⟨hcont, hwb, hlen⟩ := hob'
  obtain ⟨M, hM, hws, hnet⟩ := wires_of hwb
  have hG : Game ws.length (linkW (natW ws)) (cutW (natW ws)) := by
    have := wire_game hnet
    rwa [natW_length] at this
  have hp := gpos_of (os := os) hlen
  unfold wwinL at hw ⊢
  rw [hob, playerB_of hT] at hw
  rw [hob, playerB_of hV]
  simp only [Bool.and_self, if_true, Int.toNat_natCast] at hw ⊢
  have hw' : gWin ws.length (linkW (natW ws)) (cutW (natW ws)) (setL os 1) (setL os 2) T = V := by omega
  congr 1
  rcases hV with rfl | rfl
  · have : T = 2 := by omega
    subst this
    exact gw_move hG hp hw'
  · have : T = 1 := by omega
    subst this
    exact gw_move2 hG hp hw'

theorem fnWiresWinner_calls (hWW : WWinOk g lf) {p : PV} {ys : List Int} {h : PHeap} (N : Nat) (hN : 45 ≤ N) (ha : Arg h p ys) (hlf : 1000 < lf) (ht : TabOk g h) :
    ∃ h', CL g lf N fn_laws_FnWiresWinner [p] h = some (.bool true, h') := by
  obtain ⟨n, rfl⟩ : ∃ n, N = n + 1 := ⟨N - 1, by omega⟩
  apply W.yes
  rw [laws_FnWiresWinner.call_eq]
  unfold laws_FnWiresWinner.main
  simp only [env_C, env_lf, env_pick, env_bin, env_un, env_extract, env_len]
  have hlenp : lenP Tryd.prog 22 p = some (.int .i64 ys.length) := (ha.1 h (Keep.refl _ _)).len tyB
  by_cases hbig : (1048576 : Int) < (ys.length : Int)
  · repeat (first | with_reducible refine wT ?_ | with_reducible refine wrB ?_ | with_reducible refine wbd (by assumption) ?_ | with_reducible refine wgtrT (by omega) ?_)
    exact W.ret rfl
  obtain ⟨nodes, q, ws, qo, os, pl, h1, e1, k1, hq0, hl, hn1, hn6, ho0, hol, hp1, hp4⟩ := drawWiresWinner_W g lf n (by omega) ha (by omega)
  have htF := tabF ht k1
  have hw : FixW h1.length h1 q ws := hq0.fix
  have ho : Fix h1.length h1 qo os := ho0.fix
  have hal : ∀ h2, CL g lf n fn_laws_alive [] h2 = some (.bool true, h2) := fun h2 => alive_calls g lf n (by omega) h2
  obtain ⟨h2, e2, k2⟩ := hWW n (by omega) nodes pl (htF _ (Keep.refl _ _)) hq0 (by omega) (by omega) ho0 (by omega) (by omega)
  obtain ⟨h3, e3, k3⟩ := specWWinner_calls g lf n (by omega) nodes pl (hw.get k2) (by omega) (by omega) (ho _ k2) (by omega) (by omega) hlf
  have K3 : Keep h1.length h1 h3 := k2.trans (k3.mono k2.1)
  obtain ⟨h4, e4, k4⟩ := specOwners_calls g lf n (by omega) nodes (hw.get K3) (by omega) (by omega) (ho _ K3) (by omega) (by omega)
  have K4 : Keep h1.length h1 h4 := K3.trans (k4.mono K3.1)
  cases hob : ownersB nodes ws os with
  | false =>
    have : wwinL nodes ws os pl = 0 := by unfold wwinL; rw [hob]; rfl
    rw [this] at e2 e3
    rw [hob] at e4
    repeat (first | with_reducible refine wT ?_ | with_reducible refine wF ?_ | with_reducible refine wg1 rfl ?_ | with_reducible refine wg0 rfl ?_ | with_reducible refine wpT ?_ | with_reducible refine wnF ?_ | with_reducible refine wsm ?_ | with_reducible refine wrB ?_ | with_reducible refine wx0 ?_ | with_reducible refine wx1 ?_ | with_reducible refine wx2 ?_ | with_reducible refine wx3 ?_ | with_reducible refine wbd (by assumption) ?_ | (with_reducible refine wbd (hal _) ?_) | with_reducible refine wgtrF (by omega) ?_ | with_reducible refine weqlT (by omega) ?_ | with_reducible refine wneqF (by omega) ?_ | dsimp only)
    exact W.ret rfl
  | true =>
  rw [hob] at e4
  by_cases hpl : 2 < pl
  · have : wwinL nodes ws os pl = 0 := by unfold wwinL; rw [show playerB pl = false from playerB_none hpl, Bool.and_false]; rfl
    rw [this] at e2 e3
    repeat (first | with_reducible refine wT ?_ | with_reducible refine wF ?_ | with_reducible refine wg1 rfl ?_ | with_reducible refine wpT ?_ | with_reducible refine wpF ?_ | with_reducible refine wnT ?_ | with_reducible refine wpv ?_ | with_reducible refine wsm ?_ | with_reducible refine wrB ?_ | with_reducible refine wx0 ?_ | with_reducible refine wx1 ?_ | with_reducible refine wx2 ?_ | with_reducible refine wx3 ?_ | with_reducible refine wbd (by assumption) ?_ | (with_reducible refine wbd (hal _) ?_) | with_reducible refine wgtrT (by omega) ?_ | with_reducible refine wgtrF (by omega) ?_ | with_reducible refine weqlT (by omega) ?_ | with_reducible refine wneqF (by omega) ?_ | dsimp only)
    exact W.ret rfl
  obtain ⟨T, rfl⟩ := Int.eq_ofNat_of_zero_le (show 0 ≤ pl by omega)
  have hT : T = 1 ∨ T = 2 := by omega
  obtain ⟨V, hV, hV2⟩ : ∃ V : Nat, wwinL nodes ws os (T : Int) = (V : Int) ∧ (V = 1 ∨ V = 2) := by
    unfold wwinL
    rw [hob, playerB_of hT]
    exact ⟨_, rfl, gw_cases (by simpa using hT)⟩
  rw [hV] at e2 e3
  have hmv := wwin_move hob hT hV2
  have hdone : ∀ h5, Keep h1.length h1 h5 → V ≠ T → ∃ h6, CL g lf n fn_impl_WiresWinner [.int .i64 nodes, q, qo, .int .i64 (V : Int)] h5 = some (.int .i64 (V : Int), h6) := fun h5 k5 hne => by
    obtain ⟨h6, e6, _⟩ := hWW n (by omega) nodes (V : Int) (htF _ k5) (hw.get k5) (by omega) (by omega) (ho _ k5) (by omega) (by omega)
    rw [hmv hne hV] at e6
    exact ⟨h6, e6⟩
  have hloop : W (loopK (ev ((env g lf n).cx Tryd.prog laws_FnWiresWinner.kl) laws_FnWiresWinner.lp0) lf (laws_FnWiresWinner.st0 (.int .i64 nodes) q qo (.int .i64 (T : Int)) (.int .i64 (V : Int)) (.int .i64 ((0 : Nat) : Int)) h4) (laws_FnWiresWinner.K0 (env g lf n) (kTop Tryd.prog Tryd.f5))) fun v _ => v = .bool true := by
    refine loopW (fun m st => ∃ (i : Nat) (h5 : PHeap), st = laws_FnWiresWinner.st0 (.int .i64 nodes) q qo (.int .i64 (T : Int)) (.int .i64 (V : Int)) (.int .i64 (i : Int)) h5 ∧ i + m = os.length ∧ Keep h1.length h1 h5) ?_ lf os.length _ (by omega)
      ⟨0, h4, rfl, by omega, K4⟩
    rintro n1 m st ⟨i, h5, rfl, him, K5⟩ next
    have i5 := ho _ K5
    have hl5 := i5.len'
    rw [laws_FnWiresWinner.body0_eq]
    unfold laws_FnWiresWinner.body0
    simp only [env_C, env_buildSlice, env_load, env_store, env_bin, env_indexAddr, env_len, env_append]
    by_cases hi : i < os.length
    · obtain ⟨a, ea, la⟩ := i5.at' hi
      by_cases h0 : os[i] = 0
      · have hi0 : os[i]? = some 0 := by rw [List.getElem?_eq_getElem hi, h0]
        rw [h0] at la
        obtain ⟨v6, q6, h6, e6, e6', o6, k6⟩ := copy_all i5 (by omega) (by omega)
        have K6 : Keep h1.length h1 h6 := K5.trans (k6.mono K5.1)
        repeat (first | with_reducible refine wT ?_ | with_reducible refine wbd (by assumption) ?_ | with_reducible refine wlssT (by omega) ?_ | with_reducible refine weqlT (by omega) ?_ | dsimp only)
        refine wst o6 (by omega) fun h7 o7 k7 l7 a7 e7 => ?_
        have K7 : Keep h1.length h1 h7 := K6.trans (k7.mono K5.1)
        obtain ⟨hos, hws⟩ := wwin_set hob hT hV2 hi0 hV
        obtain ⟨h8, e8, k8⟩ := hWW n (by omega) nodes (T : Int) (htF _ K7) (hw.get K7) (by omega) (by omega) o7.int (by rw [List.length_set]; omega) (by rw [List.length_set]; omega)
        rw [hws] at e8
        have K8 : Keep h1.length h1 h8 := K7.trans (k8.mono K7.1)
        by_cases hVT : V = T
        · subst hVT
          repeat (first | with_reducible refine wF ?_ | with_reducible refine wg1 rfl ?_ | with_reducible refine wg0 rfl ?_ | with_reducible refine wpT ?_ | with_reducible refine wsm ?_ | with_reducible refine wrB ?_ | with_reducible refine wbd (by assumption) ?_ | (with_reducible refine wbd (hal _) ?_) | with_reducible refine weqlT (by omega) ?_ | with_reducible refine wneqF (by omega) ?_ | rw [kLoop_exit] | rw [laws_FnWiresWinner.after0_se0_3_4_5_6_7_76] | dsimp only | simp only [env_C, env_Y, env_g, env_lf, env_pick, env_alloc, env_box, env_build, env_buildSlice, env_load, env_store, env_ptr, env_bin, env_un, env_conv, env_make, env_slice, env_fieldAddr, env_field, env_indexAddr, env_index, env_extract, env_len, env_append, env_max, env_min, env_makeMap, env_lookup, env_update, env_clos, env_bstr])
          exact W.ret rfl
        · obtain ⟨h9, e9⟩ := hdone h8 K8 hVT
          repeat (first | with_reducible refine wF ?_ | with_reducible refine wg1 rfl ?_ | with_reducible refine wpT ?_ | with_reducible refine wpF ?_ | with_reducible refine wpv ?_ | with_reducible refine wsm ?_ | with_reducible refine wrB ?_ | with_reducible refine wbd (by assumption) ?_ | (with_reducible refine wbd (hal _) ?_) | with_reducible refine weqlT (by omega) ?_ | with_reducible refine weqlF (by omega) ?_ | with_reducible refine wneqF (by omega) ?_ | rw [kLoop_exit] | rw [laws_FnWiresWinner.after0_se0_3_4_5_6_7_76] | dsimp only | simp only [env_C, env_Y, env_g, env_lf, env_pick, env_alloc, env_box, env_build, env_buildSlice, env_load, env_store, env_ptr, env_bin, env_un, env_conv, env_make, env_slice, env_fieldAddr, env_field, env_indexAddr, env_index, env_extract, env_len, env_append, env_max, env_min, env_makeMap, env_lookup, env_update, env_clos, env_bstr])
          exact W.ret rfl
      · repeat (first | with_reducible refine wT ?_ | with_reducible refine wF ?_ | with_reducible refine wbd (by assumption) ?_ | with_reducible refine wadd1 (by omega) ?_ | with_reducible refine wlssT (by omega) ?_ | with_reducible refine weqlF (by omega) ?_)
        exact next _ _ (show m - 1 < m by omega) ⟨i + 1, h5, rfl, by omega, K5⟩
    · by_cases hVT : V = T
      · subst hVT
        repeat (first | with_reducible refine wF ?_ | with_reducible refine wg1 rfl ?_ | with_reducible refine wg0 rfl ?_ | with_reducible refine wpT ?_ | with_reducible refine wsm ?_ | with_reducible refine wrB ?_ | with_reducible refine wbd (by assumption) ?_ | (with_reducible refine wbd (hal _) ?_) | with_reducible refine wlssF (by omega) ?_ | with_reducible refine weqlT (by omega) ?_ | rw [kLoop_exit] | rw [laws_FnWiresWinner.after0_se0_3_4_5_6_7_8_55] | dsimp only | simp only [env_C, env_Y, env_g, env_lf, env_pick, env_alloc, env_box, env_build, env_buildSlice, env_load, env_store, env_ptr, env_bin, env_un, env_conv, env_make, env_slice, env_fieldAddr, env_field, env_indexAddr, env_index, env_extract, env_len, env_append, env_max, env_min, env_makeMap, env_lookup, env_update, env_clos, env_bstr])
        exact W.ret rfl
      · obtain ⟨h9, e9⟩ := hdone h5 K5 hVT
        repeat (first | with_reducible refine wF ?_ | with_reducible refine wg1 rfl ?_ | with_reducible refine wpT ?_ | with_reducible refine wpF ?_ | with_reducible refine wpv ?_ | with_reducible refine wsm ?_ | with_reducible refine wrB ?_ | with_reducible refine wbd (by assumption) ?_ | (with_reducible refine wbd (hal _) ?_) | with_reducible refine wlssF (by omega) ?_ | with_reducible refine weqlT (by omega) ?_ | with_reducible refine weqlF (by omega) ?_ | rw [kLoop_exit] | rw [laws_FnWiresWinner.after0_se0_3_4_5_6_7_8_55] | dsimp only | simp only [env_C, env_Y, env_g, env_lf, env_pick, env_alloc, env_box, env_build, env_buildSlice, env_load, env_store, env_ptr, env_bin, env_un, env_conv, env_make, env_slice, env_fieldAddr, env_field, env_indexAddr, env_index, env_extract, env_len, env_append, env_max, env_min, env_makeMap, env_lookup, env_update, env_clos, env_bstr])
        exact W.ret rfl
  rcases hV2 with hV1 | hV1
  · repeat (first | with_reducible refine wF ?_ | with_reducible refine wg1 rfl ?_ | with_reducible refine wg0 rfl ?_ | with_reducible refine wpF ?_ | with_reducible refine wnT ?_ | with_reducible refine wpv ?_ | with_reducible refine wsm ?_ | with_reducible refine wx0 ?_ | with_reducible refine wx1 ?_ | with_reducible refine wx2 ?_ | with_reducible refine wx3 ?_ | with_reducible refine wbd (by assumption) ?_ | with_reducible refine wgtrF (by omega) ?_ | with_reducible refine wneqF (by omega) ?_ | dsimp only)
    exact hloop
  · repeat (first | with_reducible refine wF ?_ | with_reducible refine wg1 rfl ?_ | with_reducible refine wpT ?_ | with_reducible refine wpF ?_ | with_reducible refine wnT ?_ | with_reducible refine wpv ?_ | with_reducible refine wsm ?_ | with_reducible refine wx0 ?_ | with_reducible refine wx1 ?_ | with_reducible refine wx2 ?_ | with_reducible refine wx3 ?_ | with_reducible refine wbd (by assumption) ?_ | with_reducible refine wgtrF (by omega) ?_ | with_reducible refine wneqT (by omega) ?_ | with_reducible refine wneqF (by omega) ?_ | dsimp only)
    exact hloop

end Go.Proofs.YtihlmjapddjjjaaDoor

/- The laws of chapter 9, the rest: gaps of wires. -/
set_option maxRecDepth 20000
namespace Go.Proofs.YtihlmjapddjjjaaDoor
open Go Go.Ip G

/-- Who owns what, of a net with owners. -/
theorem netOwn_of {nodes : Int} {ws : List (Int × Int)} {os : List Int} (hob : ownersB nodes ws os = true) : os.all contentB = true ∧ os.length = ws.length ∧ ∃ M : Nat, nodes = (M : Int) ∧ NetN M (natW ws) ∧ os.length = (natW ws).length := by
  have hob' := hob
  unfold ownersB at hob'
  rw [Bool.and_eq_true, Bool.and_eq_true, decide_eq_true_eq] at hob'
  obtain ⟨hcont, hwb, hlen⟩ := hob'
  obtain ⟨M, hM, hws, hnet⟩ := wires_of hwb
  exact ⟨hcont, hlen, M, hM, hnet, by rw [natW_length]; exact hlen⟩
theorem content_at {os : List Int} (hc : os.all contentB = true) {j : Nat} (hj : j < os.length) : os[j]? = some 0 ∨ os[j]? = some 1 ∨ os[j]? = some 2 := by
  have h := List.all_eq_true.1 hc os[j] (List.getElem_mem hj)
  unfold contentB at h
  have h := of_decide_eq_true h
  rw [List.getElem?_eq_getElem hj]
  have : os[j] = 0 ∨ os[j] = 1 ∨ os[j] = 2 := by omega
  rcases this with e | e | e
  · exact .inl (congrArg some e)
  · exact .inr (.inl (congrArg some e))
  · exact .inr (.inr (congrArg some e))
variable (g : Nat → PV) (lf n : Nat)

end Go.Proofs.YtihlmjapddjjjaaDoor

/- The laws of chapter 9, the rest: the wires that win. -/
set_option maxRecDepth 20000
namespace Go.Proofs.YtihlmjapddjjjaaDoor
open Go Go.Ip G

theorem sorted_getW {L : List Int} (h : L.Pairwise (· < ·)) : ∀ i (hi : i + 1 < L.length), L[i] < L[i + 1] := fun i hi => List.pairwise_iff_getElem.1 h i (i + 1) (by omega) hi (by omega)
theorem wtake_iff {nodes : Int} {ws : List (Int × Int)} {os : List Int} {pl : Int} {k : Nat} : wtakeB nodes ws os pl k = true ↔ ownersB nodes ws os = true ∧ playerB pl = true ∧ wonL nodes ws os = 0 ∧ os.getD k 5 = 0 ∧ wwinL nodes ws (os.set k pl) (3 - pl) = pl := by
  unfold wtakeB
  rw [Bool.and_eq_true, Bool.and_eq_true, Bool.and_eq_true, Bool.and_eq_true, decide_eq_true_eq, decide_eq_true_eq, decide_eq_true_eq]
  constructor
  · rintro ⟨⟨⟨⟨a, b⟩, c⟩, d⟩, e⟩; exact ⟨a, b, c, d, e⟩
  · rintro ⟨a, b, c, d, e⟩; exact ⟨⟨⟨⟨a, b⟩, c⟩, d⟩, e⟩
theorem getD_zero {os : List Int} {k : Nat} : os.getD k 5 = 0 ↔ os[k]? = some 0 := by
  rw [List.getD_eq_getElem?_getD]
  cases os[k]? with
  | none => constructor <;> (intro h; simp at h)
  | some x => constructor <;> (intro h; simpa using h)
theorem wtake_at {nodes : Int} {ws : List (Int × Int)} {os : List Int} {pl : Int} {k : Nat} (hk : k < (wtakeL nodes ws os pl).length) :
    ∃ j : Nat, (wtakeL nodes ws os pl)[k] = (j : Int) ∧ j < os.length ∧ os[j]? = some 0 ∧ wwinL nodes ws (os.set j pl) (3 - pl) = pl ∧ wonL nodes ws os = 0 := by
  have hm := List.getElem_mem hk
  generalize (wtakeL nodes ws os pl)[k] = x at hm
  unfold wtakeL at hm
  obtain ⟨j, hj, rfl⟩ := List.mem_map.1 hm
  obtain ⟨hr, hw⟩ := List.mem_filter.1 hj
  obtain ⟨_, _, h0, hz, hw⟩ := wtake_iff.1 hw
  exact ⟨j, rfl, List.mem_range.1 hr, getD_zero.1 hz, hw, h0⟩
theorem wtake_none {nodes : Int} {ws : List (Int × Int)} {os : List Int} {pl : Int} (h : ownersB nodes ws os = false ∨ 2 < pl ∨ wonL nodes ws os ≠ 0) : wtakeL nodes ws os pl = [] := by
  have : ∀ k, ¬ wtakeB nodes ws os pl k = true := fun k hk => by
    obtain ⟨h1, h2, h3, _⟩ := wtake_iff.1 hk
    rcases h with h | h | h
    · rw [h] at h1; cases h1
    · rw [playerB_none h] at h2; cases h2
    · exact h h3
  unfold wtakeL
  rw [List.filter_eq_nil_iff.2 fun k _ => this k]; rfl
theorem wtake_sorted (nodes : Int) (ws : List (Int × Int)) (os : List Int) (pl : Int) : (wtakeL nodes ws os pl).Pairwise (· < ·) := by
  unfold wtakeL
  rw [List.pairwise_map]
  exact ((List.pairwise_lt_range).filter _).imp fun h => by omega
theorem free_bitW {os : List Int} (hc : os.all contentB = true) {k : Nat} (hk : k < os.length) : (setL os 1 ||| setL os 2).testBit k = false ↔ os[k]? = some 0 := by
  rw [Nat.testBit_or, Bool.or_eq_false_iff]
  constructor
  · rintro ⟨h1, h2⟩
    rcases content_at hc hk with e | e | e
    · exact e
    · rw [setL_bit.2 e] at h1; cases h1
    · rw [setL_bit.2 e] at h2; cases h2
  · intro hi
    constructor
    · cases e : (setL os 1).testBit k with
      | false => rfl
      | true => have := setL_bit.1 e; rw [hi] at this; cases this
    · cases e : (setL os 2).testBit k with
      | false => rfl
      | true => have := setL_bit.1 e; rw [hi] at this; cases this
theorem owners_setW {nodes : Int} {ws : List (Int × Int)} {os : List Int} {T : Nat} (hob : ownersB nodes ws os = true) (hT : T = 1 ∨ T = 2) (i : Nat) : ownersB nodes ws (os.set i (T : Int)) = true := by
  unfold ownersB at hob ⊢
  rw [Bool.and_eq_true] at hob ⊢
  rw [List.length_set]
  refine ⟨List.all_eq_true.2 fun x hx => ?_, hob.2⟩
  rcases List.mem_or_eq_of_mem_set hx with h | rfl
  · exact List.all_eq_true.1 hob.1 x h
  · rcases hT with rfl | rfl <;> rfl
/-- A wire wins just if the player to move wins. -/
theorem wtake_some {nodes : Int} {ws : List (Int × Int)} {os : List Int} {T : Nat} (hob : ownersB nodes ws os = true) (hT : T = 1 ∨ T = 2) (h0 : wonL nodes ws os = 0) : 0 < (wtakeL nodes ws os (T : Int)).length ↔ wwinL nodes ws os (T : Int) = (T : Int) := by
  obtain ⟨hcont, hlen, M, rfl, hnet, hlv⟩ := netOwn_of hob
  have hO : 3 - T = 1 ∨ 3 - T = 2 := by omega
  have e3 : (3 : Int) - (T : Int) = ((3 - T : Nat) : Int) := by omega
  have hw : ∀ {xs : List Int} {P : Nat}, ownersB (M : Int) ws xs = true → (P = 1 ∨ P = 2) → wwinL (M : Int) ws xs (P : Int) = ((gWin ws.length (linkW (natW ws)) (cutW (natW ws)) (setL xs 1) (setL xs 2) P : Nat) : Int) := fun {xs P} hx hP => by
    unfold wwinL
    rw [hx, playerB_of hP]
    simp only [Bool.and_self, if_true, Int.toNat_natCast]
  have h0' := h0
  unfold wonL at h0'
  rw [hob] at h0'
  simp only [if_true] at h0'
  have hd : doneN (natW ws) (setL os 1) (setL os 2) = 0 := by omega
  unfold doneN at hd
  have j1 : linkW (natW ws) (setL os 1) = false := by
    cases e : linkW (natW ws) (setL os 1) with
    | false => rfl
    | true => rw [e] at hd; cases hd
  have j2 : cutW (natW ws) (setL os 2) = false := by
    rw [j1] at hd
    cases e : cutW (natW ws) (setL os 2) with
    | false => rfl
    | true => rw [e] at hd; cases hd
  rw [hw hob hT, gw_open j1 j2]
  have hmove : gMove ws.length (linkW (natW ws)) (cutW (natW ws)) (setL os 1) (setL os 2) T = true ↔ 0 < (wtakeL (M : Int) ws os (T : Int)).length := by
    rw [gMove_iff, List.length_pos_iff_exists_mem]
    constructor
    · rintro ⟨k, hk, hf, hg⟩
      have hz := (free_bitW hcont (by omega)).1 hf
      obtain ⟨s1, s2⟩ := set_putA hT hz
      refine ⟨(k : Int), List.mem_map.2 ⟨k, List.mem_filter.2 ⟨List.mem_range.2 (by omega), wtake_iff.2 ⟨hob, playerB_of hT, h0, getD_zero.2 hz, ?_⟩⟩, rfl⟩⟩
      rw [e3, hw (owners_setW hob hT k) hO, s1, s2, hg]
    · rintro ⟨x, hx⟩
      obtain ⟨k, hk, rfl⟩ := List.mem_map.1 hx
      obtain ⟨hr, hwt⟩ := List.mem_filter.1 hk
      obtain ⟨_, _, _, hz, hg⟩ := wtake_iff.1 hwt
      have hz := getD_zero.1 hz
      have hkl := List.mem_range.1 hr
      obtain ⟨s1, s2⟩ := set_putA hT hz
      rw [e3, hw (owners_setW hob hT k) hO, s1, s2] at hg
      exact ⟨k, by omega, (free_bitW hcont hkl).2 hz, by omega⟩
  rw [← hmove]
  cases gMove ws.length (linkW (natW ws)) (cutW (natW ws)) (setL os 1) (setL os 2) T with
  | true => simp
  | false =>
    simp only [Bool.false_eq_true, if_false, false_iff]
    omega

variable (g : Nat → PV) (lf n : Nat)

theorem fnWinningWires_calls (hTk : WTakeOk g lf) (hWW : WWinOk g lf) (hWo : WonOk g lf) {p : PV} {ys : List Int} {h : PHeap} (N : Nat) (hN : 45 ≤ N) (ha : Arg h p ys) (hlf : 1000 < lf) (ht : TabOk g h) :
    ∃ h', CL g lf N fn_laws_FnWinningWires [p] h = some (.bool true, h') := by
  obtain ⟨n, rfl⟩ : ∃ n, N = n + 1 := ⟨N - 1, by omega⟩
  apply W.yes
  rw [laws_FnWinningWires.call_eq]
  unfold laws_FnWinningWires.main
  simp only [env_C, env_lf, env_pick, env_bin, env_un, env_extract, env_len]
  have hlenp : lenP Tryd.prog 22 p = some (.int .i64 ys.length) := (ha.1 h (Keep.refl _ _)).len tyB
  by_cases hbig : (1048576 : Int) < (ys.length : Int)
  · repeat (first | with_reducible refine wT ?_ | with_reducible refine wrB ?_ | with_reducible refine wbd (by assumption) ?_ | with_reducible refine wgtrT (by omega) ?_)
    exact W.ret rfl
  obtain ⟨nodes, q, ws, qo, os, pl, h1, e1, k1, hq0, hl, hn1, hn6, ho0, hol, hp1, hp4⟩ := drawWinningWires_W g lf n (by omega) ha (by omega)
  have htF := tabF ht k1
  have hw : FixW h1.length h1 q ws := hq0.fix
  have ho : Fix h1.length h1 qo os := ho0.fix
  have hal : ∀ h2, CL g lf n fn_laws_alive [] h2 = some (.bool true, h2) := fun h2 => alive_calls g lf n (by omega) h2
  obtain ⟨q2, h2, e2, o2, k2⟩ := hTk n (by omega) nodes pl (htF _ (Keep.refl _ _)) hq0 (by omega) (by omega) ho0 (by omega) (by omega)
  obtain ⟨q3, h3, e3, o3, k3⟩ := specWTake_calls g lf n (by omega) nodes pl (hw.get k2) (by omega) (by omega) (ho _ k2) (by omega) (by omega) hlf
  have K3 : Keep h1.length h1 h3 := k2.trans (k3.mono k2.1)
  have hll := wtakeL_length nodes ws os pl
  have e4 := sameInts_N g lf n (by omega) (o2.keep k3).int o3.int (by omega) (by omega)
  rw [decide_eq_true rfl] at e4
  have o2' := o2.keep k3
  have f2 : Fix h3.length h3 q2 (wtakeL nodes ws os pl) := o2'.int.fix
  have hb3 : h3.length ≤ h3.length := Nat.le_refl _
  obtain ⟨h4, e5, k4⟩ := specOwners_calls g lf n (by omega) nodes (hw.get K3) (by omega) (by omega) (ho _ K3) (by omega) (by omega)
  have K4 : Keep h1.length h1 h4 := K3.trans (k4.mono K3.1)
  have empty : wtakeL nodes ws os pl = [] → lenP Tryd.prog 30 q2 = some (.int .i64 0) := fun hh => by
    have := o2'.int.len'
    rw [hh] at this; exact this
  cases hob : ownersB nodes ws os with
  | false =>
    have hlen := empty (wtake_none (.inl hob))
    rw [hob] at e5
    repeat (first | with_reducible refine wT ?_ | with_reducible refine wF ?_ | with_reducible refine wg1 rfl ?_ | with_reducible refine wg0 rfl ?_ | with_reducible refine wpT ?_ | with_reducible refine wnT ?_ | with_reducible refine wnF ?_ | with_reducible refine wsm ?_ | with_reducible refine wrB ?_ | with_reducible refine wx0 ?_ | with_reducible refine wx1 ?_ | with_reducible refine wx2 ?_ | with_reducible refine wx3 ?_ | with_reducible refine wbd (by assumption) ?_ | (with_reducible refine wbd (hal _) ?_) | with_reducible refine wgtrF (by omega) ?_ | with_reducible refine weqlT (by omega) ?_ | dsimp only)
    exact W.ret rfl
  | true =>
  rw [hob] at e5
  by_cases hpl : 2 < pl
  · have hlen := empty (wtake_none (.inr (.inl hpl)))
    repeat (first | with_reducible refine wT ?_ | with_reducible refine wF ?_ | with_reducible refine wg1 rfl ?_ | with_reducible refine wpT ?_ | with_reducible refine wpF ?_ | with_reducible refine wnT ?_ | with_reducible refine wpv ?_ | with_reducible refine wsm ?_ | with_reducible refine wrB ?_ | with_reducible refine wx0 ?_ | with_reducible refine wx1 ?_ | with_reducible refine wx2 ?_ | with_reducible refine wx3 ?_ | with_reducible refine wbd (by assumption) ?_ | (with_reducible refine wbd (hal _) ?_) | with_reducible refine wgtrT (by omega) ?_ | with_reducible refine wgtrF (by omega) ?_ | with_reducible refine weqlT (by omega) ?_ | dsimp only)
    exact W.ret rfl
  obtain ⟨T, rfl⟩ := Int.eq_ofNat_of_zero_le (show 0 ≤ pl by omega)
  have hT : T = 1 ∨ T = 2 := by omega
  have hat := fun k hk => wtake_at (nodes := nodes) (ws := ws) (os := os) (pl := (T : Int)) (k := k) hk
  have hsome := wtake_some hob hT
  have hnone := fun hh => wtake_none (nodes := nodes) (ws := ws) (os := os) (pl := (T : Int)) (.inr (.inr hh))
  have hasc : ∀ hh, Keep h3.length h3 hh → CL g lf n fn_laws_ascend [q2] hh = some (.bool true, hh) := fun hh kk => ascend_calls g lf n (by omega) (f2 _ kk) (sorted_getW (wtake_sorted _ _ _ _)) (by omega) (by omega)
  obtain ⟨L, hL⟩ : ∃ L, L = wtakeL nodes ws os (T : Int) := ⟨_, rfl⟩
  rw [← hL] at f2 hat hsome hnone hll
  have hlen2 : ∀ {hh : PHeap}, Keep h3.length h3 hh → lenP Tryd.prog 30 q2 = some (.int .i64 (L.length : Int)) := fun kk => (f2 _ kk).len'
  have hlen0 := hlen2 (Keep.refl _ _)
  repeat (first | with_reducible refine wF ?_ | with_reducible refine wg1 rfl ?_ | with_reducible refine wpF ?_ | with_reducible refine wnT ?_ | with_reducible refine wpv ?_ | with_reducible refine wsm ?_ | with_reducible refine wx0 ?_ | with_reducible refine wx1 ?_ | with_reducible refine wx2 ?_ | with_reducible refine wx3 ?_ | with_reducible refine wbd (by assumption) ?_ | with_reducible refine wgtrF (by omega) ?_ | dsimp only)
  refine loopW (fun m st => ∃ (i : Nat) (h5 : PHeap), st = laws_FnWinningWires.st0 (.int .i64 nodes) q qo (.int .i64 (T : Int)) q2 (.int .i64 (i : Int)) h5 ∧ i + m = L.length ∧ Keep h3.length h3 h5) ?_ lf L.length _ (by omega)
    ⟨0, h4, rfl, by omega, k4⟩
  rintro n1 m st ⟨i, h5, rfl, him, k5⟩ next
  have K5 : Keep h1.length h1 h5 := K3.trans (k5.mono K3.1)
  rw [laws_FnWinningWires.body0_eq]
  unfold laws_FnWinningWires.body0
  simp only [env_C, env_pick, env_buildSlice, env_load, env_store, env_bin, env_indexAddr, env_len, env_append]
  by_cases hi : i < L.length
  · obtain ⟨j, hj, hjl, hj0, hjw, _⟩ := hat i hi
    obtain ⟨v6, q6, h6, e6, e6', o6, k6⟩ := copy_all (ho _ K5) (by omega) (by omega)
    have K6 : Keep h1.length h1 h6 := K5.trans (k6.mono K5.1)
    have kk6 : Keep h3.length h3 h6 := k5.trans (k6.mono k5.1)
    obtain ⟨a, ea, la⟩ := (f2 _ kk6).at' hi
    rw [hj] at la
    have i6 := ho _ K6
    have hl6 := i6.len'
    obtain ⟨b, eb, lb⟩ := i6.at' hjl
    have hjv : os[j] = 0 := by rw [List.getElem?_eq_getElem hjl] at hj0; exact Option.some.inj hj0
    rw [hjv] at lb
    repeat (first | with_reducible refine wT ?_ | with_reducible refine wF ?_ | with_reducible refine wg1 rfl ?_ | with_reducible refine wpF ?_ | with_reducible refine wpv ?_ | with_reducible refine wsm ?_ | with_reducible refine wbd (by assumption) ?_ | with_reducible refine wlssT (by omega) ?_ | with_reducible refine wlssF (by omega) ?_ | with_reducible refine wgeqF (by omega) ?_ | with_reducible refine wneqF (by omega) ?_ | dsimp only)
    refine wst o6 (by omega) fun h7 o7 k7 l7 a7 e7 => ?_
    have K7 : Keep h1.length h1 h7 := K6.trans (k7.mono K5.1)
    obtain ⟨h8, e8, k8⟩ := hWW n (by omega) nodes (3 - (T : Int)) (htF _ K7) (hw.get K7) (by omega) (by omega) o7.int (by rw [List.length_set]; omega) (by rw [List.length_set]; omega)
    rw [hjw] at e8
    have kk8 : Keep h3.length h3 h8 := (kk6.trans (k7.mono k5.1)).trans (k8.mono (kk6.trans (k7.mono k5.1)).1)
    repeat (first | with_reducible refine wF ?_ | with_reducible refine wbd (by assumption) ?_ | with_reducible refine wadd1 (by omega) ?_ | with_reducible refine wneqF (by omega) ?_ | with_reducible refine wsub (by omega) ?_ | dsimp only)
    exact next _ _ (show m - 1 < m by omega) ⟨i + 1, h8, rfl, by omega, kk8⟩
  · obtain ⟨h6, e6, k6⟩ := hWo n (by omega) nodes (htF _ K5) (hw.get K5) (by omega) (by omega) (ho _ K5) (by omega) (by omega)
    have K6 : Keep h1.length h1 h6 := K5.trans (k6.mono K5.1)
    have kk6 : Keep h3.length h3 h6 := k5.trans (k6.mono k5.1)
    have easc := hasc _ kk6
    obtain ⟨h7, e7, k7⟩ := hWW n (by omega) nodes (T : Int) (htF _ K6) (hw.get K6) (by omega) (by omega) (ho _ K6) (by omega) (by omega)
    obtain ⟨U, hU⟩ : ∃ U, U = wonL nodes ws os := ⟨_, rfl⟩
    obtain ⟨V, hV⟩ : ∃ V, V = wwinL nodes ws os (T : Int) := ⟨_, rfl⟩
    rw [← hU] at e6 hsome hnone
    rw [← hV] at e7 hsome
    by_cases hU0 : U = 0
    · have hs := hsome hU0
      subst hU0
      by_cases hVT : V = (T : Int)
      · have hp := hs.2 hVT
        repeat (first | with_reducible refine wF ?_ | with_reducible refine wg1 rfl ?_ | with_reducible refine wpT ?_ | with_reducible refine wpv ?_ | with_reducible refine wsm ?_ | with_reducible refine wrB ?_ | with_reducible refine wbd (by assumption) ?_ | (with_reducible refine weqlBB ?_) | with_reducible refine wlssF (by omega) ?_ | with_reducible refine wgtrT (by omega) ?_ | with_reducible refine weqlT (by omega) ?_ | with_reducible refine wneqF (by omega) ?_ | rw [kLoop_exit] | rw [laws_FnWinningWires.after0_se0_3_4_5_6_7_8_51] | dsimp only | simp only [env_C, env_Y, env_g, env_lf, env_pick, env_alloc, env_box, env_build, env_buildSlice, env_load, env_store, env_ptr, env_bin, env_un, env_conv, env_make, env_slice, env_fieldAddr, env_field, env_indexAddr, env_index, env_extract, env_len, env_append, env_max, env_min, env_makeMap, env_lookup, env_update, env_clos, env_bstr])
        exact W.ret rfl
      · have hp : ¬ 0 < L.length := fun hh => hVT (hs.1 hh)
        repeat (first | with_reducible refine wF ?_ | with_reducible refine wg1 rfl ?_ | with_reducible refine wpT ?_ | with_reducible refine wpv ?_ | with_reducible refine wsm ?_ | with_reducible refine wrB ?_ | with_reducible refine wbd (by assumption) ?_ | (with_reducible refine weqlBB ?_) | with_reducible refine wlssF (by omega) ?_ | with_reducible refine wgtrF (by omega) ?_ | with_reducible refine weqlF (by omega) ?_ | with_reducible refine wneqF (by omega) ?_ | rw [kLoop_exit] | rw [laws_FnWinningWires.after0_se0_3_4_5_6_7_8_51] | dsimp only | simp only [env_C, env_Y, env_g, env_lf, env_pick, env_alloc, env_box, env_build, env_buildSlice, env_load, env_store, env_ptr, env_bin, env_un, env_conv, env_make, env_slice, env_fieldAddr, env_field, env_indexAddr, env_index, env_extract, env_len, env_append, env_max, env_min, env_makeMap, env_lookup, env_update, env_clos, env_bstr])
        exact W.ret rfl
    · have hz : L.length = 0 := by rw [hnone hU0]; rfl
      rw [hz] at hlen0
      clear hlen2
      repeat (first | with_reducible refine wT ?_ | with_reducible refine wF ?_ | with_reducible refine wrB ?_ | with_reducible refine wbd (by assumption) ?_ | with_reducible refine wlssF (by omega) ?_ | with_reducible refine weqlT (by omega) ?_ | with_reducible refine wneqT (by omega) ?_ | rw [kLoop_exit] | rw [laws_FnWinningWires.after0_se0_3_4_5_6_7_8_51] | dsimp only | simp only [env_C, env_Y, env_g, env_lf, env_pick, env_alloc, env_box, env_build, env_buildSlice, env_load, env_store, env_ptr, env_bin, env_un, env_conv, env_make, env_slice, env_fieldAddr, env_field, env_indexAddr, env_index, env_extract, env_len, env_append, env_max, env_min, env_makeMap, env_lookup, env_update, env_clos, env_bstr])
      exact W.ret rfl

end Go.Proofs.YtihlmjapddjjjaaDoor

/- The program's sets of cells: the cells with a stone, the sides, growing and gaps, walked through with the rules of XW. -/
set_option maxRecDepth 20000
namespace Go.Proofs.YtihlmjapddjjjaaDoor
open Go Go.Ip G

/-! ### sets, without program text -/
theorem bit_of_ne {w : Nat} (h : w ≠ 0) : ∃ j, w.testBit j = true := by
  apply Classical.byContradiction
  intro hh
  refine h (Nat.eq_of_testBit_eq fun j => ?_)
  rw [Nat.zero_testBit]
  cases e : w.testBit j with
  | false => rfl
  | true => exact (hh ⟨j, e⟩).elim

variable (g : Nat → PV) (lf n : Nat)

/-! ### the program -/
theorem playerOk_W (N : Nat) (hN : 1 ≤ N) (h : PHeap) (p : Int) : CL g lf N fn_impl_playerOk [.int .i64 p] h = some (.bool (playerB p), h) := by
  obtain ⟨n, rfl⟩ : ∃ n, N = n + 1 := ⟨N - 1, by omega⟩
  have : W (CL g lf (n + 1) fn_impl_playerOk [.int .i64 p] h) fun v h' => v = .bool (playerB p) ∧ h' = h := by
    rw [impl_playerOk.call_eq]
    unfold impl_playerOk.main
    simp only [env_pick, env_bin]
    refine weql (fun e => ?_) (fun e => ?_)
    · repeat (first | with_reducible refine wg0 rfl ?_ | with_reducible refine wpT ?_ | with_reducible refine wsm ?_ | with_reducible refine wrB ?_ | dsimp only)
      exact W.ret ⟨by subst e; rfl, rfl⟩
    · repeat (first | with_reducible refine wg1 rfl ?_ | with_reducible refine wpv ?_ | with_reducible refine wsm ?_ | dsimp only)
      refine weql (fun e2 => ?_) (fun e2 => ?_)
      · repeat (first | with_reducible refine wpF ?_ | with_reducible refine wrB ?_)
        exact W.ret ⟨by subst e2; rfl, rfl⟩
      · repeat (first | with_reducible refine wpF ?_ | with_reducible refine wrB ?_)
        exact W.ret ⟨by rw [show playerB p = false by unfold playerB; exact decide_eq_false (by omega)], rfl⟩
  obtain ⟨_, _, e, rfl, rfl⟩ := this
  exact e

theorem setOf_W {xs : List Int} {p : PV} {h : PHeap} (what : Int) (hp : IntSl .i64 h p xs) (hl : xs.length ≤ 20) (N : Nat) (hN : 1 ≤ N) (hlf : 1000 < lf) :
    CL g lf N fn_impl_setOf [p, .int .i64 what] h = some (.int .i64 (setL xs what : Int), h) := by
  obtain ⟨n, rfl⟩ : ∃ n, N = n + 1 := ⟨N - 1, by omega⟩
  have : W (CL g lf (n + 1) fn_impl_setOf [p, .int .i64 what] h) fun v h' => v = .int .i64 (setL xs what : Int) ∧ h' = h := by
    rw [impl_setOf.call_eq]
    unfold impl_setOf.main
    simp only [env_lf, env_len]
    repeat (first | with_reducible refine wlen (by assumption) ?_)
    refine loopW (fun m s => ∃ i w : Nat, s = impl_setOf.st0 (.int .i64 what) (.int .i64 (w : Int)) p (.int .i64 (xs.length : Int)) (.int .i64 (i : Int)) h ∧ i + m = xs.length ∧ w < 2 ^ 30 ∧ setFrom what i (xs.drop i) w = setL xs what) ?_ lf xs.length _ (by omega) ⟨0, 0, rfl, by omega, by decide, rfl⟩
    rintro n1 m s ⟨i, w, rfl, him, hw, hset⟩ next
    rw [impl_setOf.body0_eq]
    unfold impl_setOf.body0
    simp only [env_load, env_bin, env_indexAddr]
    by_cases hi : i < xs.length
    · have hdx : xs.drop i = xs[i] :: xs.drop (i + 1) := List.drop_eq_getElem_cons hi
      have h30 : 1 <<< i < 2 ^ 30 := by rw [Nat.one_shiftLeft]; exact Nat.pow_lt_pow_right (by decide) (by omega)
      rw [hdx, setFrom] at hset
      repeat (first | with_reducible refine wT ?_ | with_reducible refine wbd (by assumption) ?_ | (with_reducible refine wat hp hi fun a hl => ?_) | with_reducible refine wlssT (by omega) ?_)
      refine weql (fun e => ?_) (fun e => ?_)
      · repeat (first | with_reducible refine wT ?_ | with_reducible refine wadd1 (by omega) ?_ | with_reducible refine wshl (by omega) ?_ | with_reducible refine wor (by omega) (by omega) ?_)
        rw [if_pos e] at hset
        exact next _ _ (show m - 1 < m by omega) ⟨i + 1, _, rfl, by omega, Nat.or_lt_two_pow hw h30, hset⟩
      · repeat (first | with_reducible refine wF ?_ | with_reducible refine wadd1 (by omega) ?_)
        rw [if_neg e] at hset
        exact next _ _ (show m - 1 < m by omega) ⟨i + 1, _, rfl, by omega, hw, hset⟩
    · rw [List.drop_eq_nil_of_le (by omega), setFrom] at hset
      repeat (first | with_reducible refine wF ?_ | with_reducible refine wrI ?_ | with_reducible refine wlssF (by omega) ?_ | rw [kLoop_exit] | rw [impl_setOf.after0_se0_1_5_8_9_10_11])
      exact W.ret ⟨by rw [hset], rfl⟩
  obtain ⟨_, _, e, rfl, rfl⟩ := this
  exact e

end Go.Proofs.YtihlmjapddjjjaaDoor

/- The program's chapter 2: Joins, GapOf, GroupOf, Filled and GapCells compute what the model's do. -/
set_option maxRecDepth 20000
namespace Go.Proofs.YtihlmjapddjjjaaDoor
open Go Go.Ip G

variable (g : Nat → PV) (lf n : Nat)

end Go.Proofs.YtihlmjapddjjjaaDoor

/- The least cell of a set, as the library finds it by its table of 64 bytes; and comparing a slice with nil, copying it. -/
set_option maxRecDepth 20000
namespace Go.Proofs.YtihlmjapddjjjaaDoor
open Go Go.Ip G

/-- The least number in a set of nine; nine if there is none. -/
def lowN (x : Nat) : Nat := ((List.range 9).find? fun k => x.testBit k).getD 9
def lsB (x : Nat) : Bool := x.testBit (lowN x) && decide (lowN x < 9) && (List.range (lowN x)).all (fun j => !x.testBit j) && (x &&& (x - 1) == without x (lowN x))
theorem ls_all : ((List.range 512).all fun x => x == 0 || lsB x) = true := by kernel_rfl
theorem low_ok {x : Nat} (hx : x < 2 ^ 9) (h0 : x ≠ 0) : x.testBit (lowN x) = true ∧ lowN x < 9 ∧ (∀ j, j < lowN x → x.testBit j = false) ∧ x &&& (x - 1) = without x (lowN x) := by
  have h := List.all_eq_true.1 ls_all x (List.mem_range.2 hx)
  have h1 : lsB x = true := by
    rcases Bool.or_eq_true_iff.1 h with h | h
    · exact absurd (by simpa using h) h0
    · exact h
  unfold lsB at h1
  simp only [Bool.and_eq_true, decide_eq_true_eq, beq_iff_eq] at h1
  obtain ⟨⟨⟨a, b⟩, c⟩, d⟩ := h1
  exact ⟨a, b, fun j hj => by have := List.all_eq_true.1 c j (List.mem_range.2 hj); simpa using this, d⟩

/-- What the library computes, step by step. -/
def isU (o : Option PV) (a : Nat) : Bool := match o with | some (.int .u64 (.ofNat b)) => b == a | _ => false
theorem isU_eq {o : Option PV} {a : Nat} (h : isU o a = true) : o = some (.int .u64 (a : Int)) := by
  unfold isU at h
  split at h
  · have := beq_iff_eq.1 h; subst this; rfl
  · cases h
def tz5 (x : Nat) : Nat := ((1 <<< lowN x) * 285870213051353865) % 2 ^ 64
def tz6 (x : Nat) : Nat := tz5 x / 2 ^ 58
noncomputable def tzB (x : Nat) : Bool := isU (unP .neg (.int .u64 (x : Int))) (2 ^ 64 - x) && (isU (binP Tryd.prog .and 79 (.int .u64 (x : Int)) (.int .u64 ((2 ^ 64 - x : Nat) : Int))) (1 <<< lowN x) &&
  (isU (binP Tryd.prog .mul 79 (.int .u64 ((1 <<< lowN x : Nat) : Int)) (.int .u64 285870213051353865)) (tz5 x) && (isU (binP Tryd.prog .shr 79 (.int .u64 (tz5 x : Int)) (.int .u64 58)) (tz6 x) && tab64N[tz6 x]? == some (lowN x))))
theorem tz_all : ((List.range 512).all fun x => x == 0 || tzB x) = true := by kernel_rfl
theorem tz_one {x : Nat} (hx : x < 2 ^ 9) (h0 : x ≠ 0) : tzB x = true := by
  have h := List.all_eq_true.1 tz_all x (List.mem_range.2 hx)
  rcases Bool.or_eq_true_iff.1 h with h | h
  · exact absurd (beq_iff_eq.1 h) h0
  · exact h
theorem tz_steps {x : Nat} (hx : x < 2 ^ 9) (h0 : x ≠ 0) : ∃ v3 v4 v5, ∃ i : Nat, unP .neg (.int .u64 (x : Int)) = some v3 ∧ binP Tryd.prog .and 79 (.int .u64 (x : Int)) v3 = some v4 ∧ binP Tryd.prog .mul 79 v4 (.int .u64 285870213051353865) = some v5 ∧
    binP Tryd.prog .shr 79 v5 (.int .u64 58) = some (.int .u64 (i : Int)) ∧ tab64N[i]? = some (lowN x) := by
  have h1 := tz_one hx h0
  unfold tzB at h1
  obtain ⟨a, h1⟩ := Bool.and_eq_true_iff.1 h1
  obtain ⟨b, h1⟩ := Bool.and_eq_true_iff.1 h1
  obtain ⟨c, h1⟩ := Bool.and_eq_true_iff.1 h1
  obtain ⟨d, h1⟩ := Bool.and_eq_true_iff.1 h1
  exact ⟨_, _, _, _, isU_eq a, isU_eq b, isU_eq c, isU_eq d, beq_iff_eq.1 h1⟩

theorem tyTzU : Tryd.prog.underlying 81 = some (.array 64 5) := by kernel_rfl
theorem tyTz1 : sizeT Tryd.prog 5 = some 1 := by kernel_rfl
theorem tyTzA : isAggT Tryd.prog 5 = some false := by kernel_rfl
theorem tzConv (l : Nat) (hl : l < 9) : convP Tryd.prog 5 3 (.int .u8 (l : Int)) = some (.int .i64 (l : Int)) := by
  have : convP Tryd.prog 5 3 (.int .u8 (l : Int)) = some (.int .i64 (IntKind.i64.wrap (l : Int))) := by kernel_rfl
  rw [this, wr (by omega)]
theorem tzConv2 (x : Nat) (hx : x < 2 ^ 9) : convP Tryd.prog 3 50 (.int .i64 (x : Int)) = some (.int .u64 (x : Int)) := by
  have : convP Tryd.prog 3 50 (.int .i64 (x : Int)) = some (.int .u64 (IntKind.u64.wrap (x : Int))) := by kernel_rfl
  rw [this]
  have : IntKind.u64.wrap (x : Int) = (x : Int) := by unfold IntKind.wrap; simp [IntKind.bits, IntKind.signed]; omega
  rw [this]

variable (g : Nat → PV) (lf n : Nat)

/-- The library's table is known to lie somewhere. -/
def Big (g : Nat → PV) : Prop := ∃ id, g 1 = .ptr id 0

theorem tz64_W {x : Nat} (hx : x < 2 ^ 9) (h0 : x ≠ 0) (hb : Big g) {h : PHeap} (ht : Tab64 g h) (N : Nat) (hN : 1 ≤ N) : CL g lf N fn_bits_TrailingZeros64 [.int .u64 (x : Int)] h = some (.int .i64 (lowN x : Int), h) := by
  obtain ⟨n, rfl⟩ : ∃ n, N = n + 1 := ⟨N - 1, by omega⟩
  obtain ⟨id, hg⟩ := hb
  have ho := ht id hg
  obtain ⟨v3, v4, v5, i, e3, e4, e5, e6, hi⟩ := tz_steps hx h0
  have hi64 : i < 64 := (List.getElem?_eq_some_iff.1 hi).1
  have e7 : indexAddrP Tryd.prog 81 (.ptr id 0) (.int .u64 (i : Int)) = some (.ptr id i) := by simp [indexAddrP, tyTzU, tyTz1]; omega
  have e8 : loadP Tryd.prog 5 (.ptr id i) h = some (.int .u8 (lowN x : Int)) := by
    simp [loadP, tyTzA, cellsAt, ho, PObj.get, tab64Cells, hi]
  have e9 := tzConv (lowN x) (low_ok hx h0).2.1
  have : W (CL g lf (n + 1) fn_bits_TrailingZeros64 [.int .u64 (x : Int)] h) fun v h' => v = .int .i64 (lowN x : Int) ∧ h' = h := by
    rw [bits_TrailingZeros64.call_eq]
    unfold bits_TrailingZeros64.main
    simp only [env_g, env_load, env_bin, env_un, env_conv, env_indexAddr]
    refine weqlF (by omega) ?_
    rw [hg]
    repeat (first | with_reducible refine wF ?_ | with_reducible refine wrI ?_ | with_reducible refine wbd (by assumption) ?_)
    exact W.ret ⟨rfl, rfl⟩
  obtain ⟨_, _, e, rfl, rfl⟩ := this
  exact e

theorem leastIn_W {x : Nat} (hx : x < 2 ^ 9) (h0 : x ≠ 0) (hb : Big g) {h : PHeap} (ht : Tab64 g h) (N : Nat) (hN : 3 ≤ N) : CL g lf N fn_impl_leastIn [.int .i64 (x : Int)] h = some (.int .i64 (lowN x : Int), h) := by
  obtain ⟨n, rfl⟩ : ∃ n, N = n + 1 := ⟨N - 1, by omega⟩
  obtain ⟨n, rfl⟩ : ∃ m, n = m + 1 := ⟨n - 1, by omega⟩
  have e1 := tzConv2 x hx
  have e2 := tz64_W g lf hx h0 hb ht n (by omega)
  have e3 : CL g lf (n + 1) fn_bits_TrailingZeros [.int .u64 (x : Int)] h = some (.int .i64 (lowN x : Int), h) := by
    have : W (CL g lf (n + 1) fn_bits_TrailingZeros [.int .u64 (x : Int)] h) fun v h' => v = .int .i64 (lowN x : Int) ∧ h' = h := by
      rw [bits_TrailingZeros.call_eq]
      unfold bits_TrailingZeros.main
      simp only [env_C, env_conv]
      repeat (first | with_reducible refine wF ?_ | with_reducible refine wrI ?_ | with_reducible refine wbd (by assumption) ?_ | dsimp only)
      exact W.ret ⟨rfl, rfl⟩
    obtain ⟨_, _, e, rfl, rfl⟩ := this
    exact e
  have : W (CL g lf (n + 1 + 1) fn_impl_leastIn [.int .i64 (x : Int)] h) fun v h' => v = .int .i64 (lowN x : Int) ∧ h' = h := by
    rw [impl_leastIn.call_eq]
    unfold impl_leastIn.main
    simp only [env_C, env_conv]
    repeat (first | with_reducible refine wrI ?_ | with_reducible refine wbd (by assumption) ?_ | dsimp only)
    exact W.ret ⟨rfl, rfl⟩
  obtain ⟨_, _, e, rfl, rfl⟩ := this
  exact e

/-- What a set loses with its least cell. -/
theorem f_drop {x : Nat} (hx : x < 2 ^ 9) (h0 : x ≠ 0) : binP Tryd.prog .sub 3 (.int .i64 (x : Int)) (.int .i64 1) = some (.int .i64 ((x - 1 : Nat) : Int)) ∧ binP Tryd.prog .and 3 (.int .i64 (x : Int)) (.int .i64 ((x - 1 : Nat) : Int)) = some (.int .i64 (without x (lowN x) : Int)) := by
  refine ⟨by rw [bin_sub, wr (by omega), show (x : Int) - 1 = ((x - 1 : Nat) : Int) by omega], ?_⟩
  rw [f_and (by omega) (by omega), (low_ok hx h0).2.2.2]
theorem without_lt9 {x k : Nat} (hx : x < 2 ^ 9) : without x k < 2 ^ 9 := by rw [← minusN_one]; exact minusN_lt hx
theorem without_less {x : Nat} (hx : x < 2 ^ 9) (h0 : x ≠ 0) : without x (lowN x) < x := by
  have h := (low_ok hx h0).2.2.2
  rw [← h]
  have : x &&& (x - 1) ≤ x - 1 := Nat.and_le_right
  omega

/-! ### slices.Clone -/
end Go.Proofs.YtihlmjapddjjjaaDoor

/- The program's search: structs and a map on the interpreter's heap; the sets' joining; what stands after a move. -/
set_option maxRecDepth 20000
namespace Go.Proofs.YtihlmjapddjjjaaDoor
open Go Go.Ip G

/-! ### objects by themselves, and what keeps all but one -/
def At (h : PHeap) (id : Nat) (l : List PV) : Prop := h[id]? = some (.own 1 l)
theorem At.lt {h : PHeap} {id : Nat} {l : List PV} (a : At h id l) : id < h.length := (List.getElem?_eq_some_iff.1 a).1
/-- All is as it was but the object m, and what is behind. -/
def KB (m : Nat) (h h' : PHeap) : Prop := h.length ≤ h'.length ∧ ∀ i, i < h.length → i ≠ m → h'[i]? = h[i]?
theorem KB.refl (m : Nat) (h : PHeap) : KB m h h := ⟨Nat.le_refl _, fun _ _ _ => rfl⟩
theorem KB.trans {m : Nat} {a b c : PHeap} (h : KB m a b) (k : KB m b c) : KB m a c := ⟨Nat.le_trans h.1 k.1, fun i hi hn => (k.2 i (Nat.lt_of_lt_of_le hi h.1) hn).trans (h.2 i hi hn)⟩
theorem Keep.kb {m : Nat} {a b : PHeap} (h : Keep a.length a b) : KB m a b := ⟨h.1, fun i hi _ => h.2 i hi⟩
theorem KB.keep {m n : Nat} {a b : PHeap} (h : KB m a b) (hm : n ≤ m) (hn : n ≤ a.length) : Keep n a b := ⟨h.1, fun i hi => h.2 i (Nat.lt_of_lt_of_le hi hn) (by omega)⟩
theorem At.keep {h h' : PHeap} {id : Nat} {l : List PV} (a : At h id l) (k : Keep h.length h h') : At h' id l := by unfold At; rw [k.2 id a.lt]; exact a
theorem At.kb {h h' : PHeap} {id m : Nat} {l : List PV} (a : At h id l) (k : KB m h h') (hn : id ≠ m) : At h' id l := by unfold At; rw [k.2 id a.lt hn]; exact a
def MapAt (h : PHeap) (m : Nat) (es : List (PV × PV)) : Prop := h[m]? = some (.mp es)
theorem MapAt.lt {h : PHeap} {m : Nat} {es : List (PV × PV)} (a : MapAt h m es) : m < h.length := (List.getElem?_eq_some_iff.1 a).1
theorem MapAt.keep {h h' : PHeap} {m : Nat} {es : List (PV × PV)} (a : MapAt h m es) (k : Keep h.length h h') : MapAt h' m es := by unfold MapAt; rw [k.2 m a.lt]; exact a
theorem MapAt.kb {h h' : PHeap} {id m : Nat} {es : List (PV × PV)} (a : MapAt h m es) (k : KB id h h') (hn : m ≠ id) : MapAt h' m es := by unfold MapAt; rw [k.2 m a.lt hn]; exact a
theorem At.ne {h : PHeap} {id m : Nat} {l : List PV} {es : List (PV × PV)} (a : At h id l) (b : MapAt h m es) : id ≠ m := by
  intro e; subst e; unfold At at a; unfold MapAt at b; rw [a] at b; cases b
theorem Fix.kb {b m : Nat} {h h' : PHeap} {p : PV} {xs : List Int} (s : Fix b h p xs) (k : KB m h h') (hb : b ≤ m) (hb2 : b ≤ h.length) : Fix b h' p xs := s.keep (k.keep hb hb2)

section
variable {Q : PV → PHeap → Prop} {h : PHeap}
/-- A new object. -/
theorem wnew {l : List PV} {x : Res} {f : PV × PHeap → Res} (hx : x = some (.ptr h.length 0, h ++ [.own 1 l])) (hf : ∀ h' id, At h' id l → Keep h.length h h' → h.length ≤ id → W (f (.ptr id 0, h')) Q) : W (x.bind f) Q := by
  rw [hx]
  exact hf _ _ (by unfold At; simp) (Keep.append _ _ _ (Nat.le_refl _)) (Nat.le_refl _)
/-- An object is written to. -/
theorem put_at {id : Nat} {l l' : List PV} (a : At h id l) : At (h.set id (.own 1 l')) id l' ∧ KB id h (h.set id (.own 1 l')) := by
  refine ⟨by unfold At; rw [List.getElem?_set_self a.lt], by simp, fun i _ hn => List.getElem?_set_ne (by omega)⟩
end

/-! ### types -/
theorem tyStA : isAggT Tryd.prog 64 = some true := by kernel_rfl
theorem tySt4 : sizeT Tryd.prog 64 = some 4 := by kernel_rfl
theorem tyStZ : zeroCellsT Tryd.prog 64 = some [.int .i64 0, .int .i64 0, .int .i64 0, .int .i64 0] := by kernel_rfl
theorem tyA3 : Tryd.prog.underlying 62 = some (.array 3 3) := by kernel_rfl
theorem tyMp : Tryd.prog.underlying 57 = some (.map 64 3) := by kernel_rfl
theorem tyMpA : isAggT Tryd.prog 57 = some false := by kernel_rfl
theorem fSt0 (id : Nat) : fieldAddrP Tryd.prog 64 (.ptr id 0) 0 = some (.ptr id 0) := by kernel_rfl
theorem fSt1 (id : Nat) : fieldAddrP Tryd.prog 64 (.ptr id 0) 1 = some (.ptr id 3) := by kernel_rfl
theorem ia3 (id o i : Nat) (hi : i < 3) : indexAddrP Tryd.prog 62 (.ptr id o) (.int .i64 (i : Int)) = some (.ptr id (o + i)) := by simp [indexAddrP, tyA3, tySize]; omega
theorem ld1 {h : PHeap} {id i : Nat} {l : List PV} {v : PV} (a : At h id l) (hv : l[i]? = some v) : loadP Tryd.prog 3 (.ptr id i) h = some v := by
  simp [loadP, tyAgg, cellsAt, show h[id]? = some (.own 1 l) from a, PObj.get, hv]
theorem ldM {h : PHeap} {id i : Nat} {l : List PV} {v : PV} (a : At h id l) (hv : l[i]? = some v) : loadP Tryd.prog 57 (.ptr id i) h = some v := by
  simp [loadP, tyMpA, cellsAt, show h[id]? = some (.own 1 l) from a, PObj.get, hv]
theorem st1 {h : PHeap} {id i : Nat} {l : List PV} {x : Int} (a : At h id l) (hi : i < l.length) : storeP Tryd.prog 3 (.ptr id i) (.int .i64 x) h = some (h.set id (.own 1 (l.set i (.int .i64 x)))) := by
  simp [storeP, show h[id]? = some (.own 1 l) from a, PV.cells, tySize, setCells]; omega

/-! ### what stands -/
def stC (f a b t : Nat) : List PV := [.int .i64 (f : Int), .int .i64 (a : Int), .int .i64 (b : Int), .int .i64 (t : Int)]
def stP (f a b t : Nat) : PV := .agg (stC f a b t)
theorem ldS {h : PHeap} {id f a b t : Nat} (o : At h id (stC f a b t)) : loadP Tryd.prog 64 (.ptr id 0) h = some (stP f a b t) := by
  simp [loadP, tyStA, tySt4, cellsAt, show h[id]? = some (.own 1 (stC f a b t)) from o, PObj.get, stC, stP]
theorem boxS (h : PHeap) (f a b t : Nat) : boxP (stP f a b t) h = some (.ptr h.length 0, h ++ [.own 1 (stC f a b t)]) := by simp [boxP, stP, stC, PV.cells, PV.oneCell]
theorem alS (h : PHeap) : allocP Tryd.prog 64 h = some (.ptr h.length 0, h ++ [.own 1 (stC 0 0 0 0)]) := by simp [allocP, tyStZ, stC]
theorem stS {h : PHeap} {id f a b t f' a' b' t' : Nat} (o : At h id (stC f' a' b' t')) : storeP Tryd.prog 64 (.ptr id 0) (stP f a b t) h = some (h.set id (.own 1 (stC f a b t))) := by
  simp [storeP, show h[id]? = some (.own 1 (stC f' a' b' t')) from o, stP, stC, PV.cells, PV.oneCell, tySt4, setCells]
theorem plainS {f a b t : Nat} : plainEq (stP f a b t) (stP f a b t) = true := plain_agg4

section
variable {Q : PV → PHeap → Prop} {h : PHeap} {id f a b t : Nat}
theorem wboxS {F : PV × PHeap → Res} (hf : ∀ h' id, At h' id (stC f a b t) → Keep h.length h h' → h.length ≤ id → W (F (.ptr id 0, h')) Q) : W ((boxP (stP f a b t) h).bind F) Q := wnew (boxS h f a b t) hf
theorem walS {F : PV × PHeap → Res} (hf : ∀ h' id, At h' id (stC 0 0 0 0) → Keep h.length h h' → h.length ≤ id → W (F (.ptr id 0, h')) Q) : W ((allocP Tryd.prog 64 h).bind F) Q := wnew (alS h) hf
theorem wstS {f' a' b' t' : Nat} (o : At h id (stC f' a' b' t')) {F : PHeap → Res} (hf : ∀ h', At h' id (stC f a b t) → KB id h h' → W (F h') Q) : W ((storeP Tryd.prog 64 (.ptr id 0) (stP f a b t) h).bind F) Q := by
  rw [stS o]; exact hf _ (put_at o).1 (put_at o).2
theorem wst1 {i : Nat} {l : List PV} {x : Int} (o : At h id l) (hi : i < l.length) {F : PHeap → Res} (hf : ∀ h', At h' id (l.set i (.int .i64 x)) → KB id h h' → W (F h') Q) : W ((storeP Tryd.prog 3 (.ptr id i) (.int .i64 x) h).bind F) Q := by
  rw [st1 o hi]; exact hf _ (put_at o).1 (put_at o).2
theorem wia3 {o i : Nat} (hi : i < 3) {F : PV → Res} (hf : W (F (.ptr id (o + i))) Q) : W ((indexAddrP Tryd.prog 62 (.ptr id o) (.int .i64 (i : Int))).bind F) Q := wbd (ia3 id o i hi) hf
end

variable (g : Nat → PV) (lf n : Nat)

theorem exchanged_W (N : Nat) (hN : 1 ≤ N) (h : PHeap) {T : Nat} (hT : T = 1 ∨ T = 2) : CL g lf N fn_impl_exchanged [.int .i64 (T : Int)] h = some (.int .i64 ((3 - T : Nat) : Int), h) := by
  obtain ⟨n, rfl⟩ : ∃ n, N = n + 1 := ⟨N - 1, by omega⟩
  have : W (CL g lf (n + 1) fn_impl_exchanged [.int .i64 (T : Int)] h) fun v h' => v = .int .i64 ((3 - T : Nat) : Int) ∧ h' = h := by
    rw [impl_exchanged.call_eq]
    unfold impl_exchanged.main
    simp only [env_bin]
    rcases hT with rfl | rfl
    · repeat (first | with_reducible refine wT ?_ | with_reducible refine wrI ?_ | with_reducible refine weqlT (by omega) ?_)
      exact W.ret ⟨rfl, rfl⟩
    · repeat (first | with_reducible refine wT ?_ | with_reducible refine wF ?_ | with_reducible refine wrI ?_ | with_reducible refine weqlT (by omega) ?_ | with_reducible refine weqlF (by omega) ?_)
      exact W.ret ⟨rfl, rfl⟩
  obtain ⟨_, _, e, rfl, rfl⟩ := this
  exact e

theorem Keep.kbs {n m : Nat} {a b c : PHeap} (k : Keep n a b) (hn : n ≤ a.length) (k' : KB m b c) (hm : n ≤ m) : Keep n a c := k.trans (k'.keep hm (Nat.le_trans hn k.1))
theorem wia30 {Q : PV → PHeap → Prop} {id o : Nat} {F : PV → Res} (hf : W (F (.ptr id (o + 0))) Q) : W ((indexAddrP Tryd.prog 62 (.ptr id o) (.int .i64 0)).bind F) Q := wbd (ia3 id o 0 (by decide)) hf

theorem after_W {f a b t k : Nat} (hf : f < 2 ^ 9) (ha : a < 2 ^ 9) (hb : b < 2 ^ 9) (hk : k < 9) (ht : t = 1 ∨ t = 2) (N : Nat) (hN : 2 ≤ N) (h : PHeap) :
    W (CL g lf N fn_impl_standing_after [stP f a b t, .int .i64 (k : Int)] h) fun v h' => v = stP (without f k) (putA t k a) (putB t k b) (3 - t) ∧ Keep h.length h h' := by
  obtain ⟨n, rfl⟩ : ∃ n, N = n + 1 := ⟨N - 1, by omega⟩
  have hsl := shl_lt hk
  have e1 : ∀ h, CL g lf n fn_impl_exchanged [.int .i64 (t : Int)] h = some (.int .i64 ((3 - t : Nat) : Int), h) := fun h => exchanged_W g lf n (by omega) h ht
  rw [impl_standing_after.call_eq]
  unfold impl_standing_after.main
  simp only [env_C, env_alloc, env_box, env_load, env_store, env_bin, env_fieldAddr, env_indexAddr]
  refine wboxS fun h1 id o1 k1 l1 => ?_
  dsimp only
  refine walS fun h2 id2 o2 k2 l2 => ?_
  have o1' := o1.keep k2
  have hne : id2 ≠ id := by have := o1.lt; omega
  have kk2 : Keep h.length h h2 := k1.trans (k2.mono k1.1)
  repeat (first | (with_reducible refine wbd (fSt0 _) ?_) | (with_reducible refine wia30 ?_) | (with_reducible refine wbd (ld1 (by assumption) rfl) ?_) | with_reducible refine wshl (by omega) ?_ | with_reducible refine wandNot (by omega) (by omega) ?_ | dsimp only)
  refine wst1 o1' (show 0 + 0 < 4 by decide) fun h3 o3 k3 => ?_
  have o3 : At h3 id (stC (without f k) a b t) := o3
  have o23 := o2.kb k3 hne
  rcases ht with rfl | rfl
  · repeat (first | (with_reducible refine wbd (fSt0 _) ?_) | (with_reducible refine wbd (fSt1 _) ?_) | (with_reducible refine wia3 (by omega) ?_) | (with_reducible refine wbd (ld1 (by assumption) rfl) ?_) | with_reducible refine wshl (by omega) ?_ | with_reducible refine wor (by omega) (by omega) ?_)
    refine wst1 o3 (show 0 + 1 < 4 by decide) fun h4 o4 k4 => ?_
    have o4 : At h4 id (stC (without f k) (a ||| 1 <<< k) b 1) := o4
    have o24 := o23.kb k4 hne
    have e2 := e1 h4
    repeat (first | with_reducible refine wbd (by assumption) ?_ | (with_reducible refine wbd (fSt1 _) ?_) | (with_reducible refine wbd (ld1 (by assumption) rfl) ?_) | dsimp only)
    refine wst1 o4 (show 3 < 4 by decide) fun h5 o5 k5 => ?_
    have o5 : At h5 id (stC (without f k) (a ||| 1 <<< k) b (3 - 1)) := o5
    have o25 := o24.kb k5 hne
    repeat (first | (with_reducible refine wbd (ldS (by assumption)) ?_))
    refine wstS o25 fun h6 o6 k6 => ?_
    repeat (first | (with_reducible refine wbd (ldS (by assumption)) ?_))
    exact W.ret ⟨rfl, (((kk2.kbs (Nat.le_refl _) k3 l1).kbs (Nat.le_refl _) k4 l1).kbs (Nat.le_refl _) k5 l1).kbs (Nat.le_refl _) k6 (Nat.le_trans k1.1 l2)⟩
  · repeat (first | (with_reducible refine wbd (fSt0 _) ?_) | (with_reducible refine wbd (fSt1 _) ?_) | (with_reducible refine wia3 (by omega) ?_) | (with_reducible refine wbd (ld1 (by assumption) rfl) ?_) | with_reducible refine wshl (by omega) ?_ | with_reducible refine wor (by omega) (by omega) ?_)
    refine wst1 o3 (show 0 + 2 < 4 by decide) fun h4 o4 k4 => ?_
    have o4 : At h4 id (stC (without f k) a (b ||| 1 <<< k) 2) := o4
    have o24 := o23.kb k4 hne
    have e2 := e1 h4
    repeat (first | with_reducible refine wbd (by assumption) ?_ | (with_reducible refine wbd (fSt1 _) ?_) | (with_reducible refine wbd (ld1 (by assumption) rfl) ?_) | dsimp only)
    refine wst1 o4 (show 3 < 4 by decide) fun h5 o5 k5 => ?_
    have o5 : At h5 id (stC (without f k) a (b ||| 1 <<< k) (3 - 2)) := o5
    have o25 := o24.kb k5 hne
    repeat (first | (with_reducible refine wbd (ldS (by assumption)) ?_))
    refine wstS o25 fun h6 o6 k6 => ?_
    repeat (first | (with_reducible refine wbd (ldS (by assumption)) ?_))
    exact W.ret ⟨rfl, (((kk2.kbs (Nat.le_refl _) k3 l1).kbs (Nat.le_refl _) k4 l1).kbs (Nat.le_refl _) k5 l1).kbs (Nat.le_refl _) k6 (Nat.le_trans k1.1 l2)⟩

/-! ### a board's search -/
def nearV (R C j : Nat) : Nat := if j < R * C then wideN R C (1 <<< j) else 0
def srchV (R C : Nat) : List Nat := (List.range 9).map (nearV R C) ++ [0, sideN R C 1 false, sideN R C 2 false, 0, sideN R C 1 true, sideN R C 2 true]
def srchC (R C m : Nat) : List PV := (srchV R C).map (fun x : Nat => .int .i64 (x : Int)) ++ [.mapv m]
end Go.Proofs.YtihlmjapddjjjaaDoor

