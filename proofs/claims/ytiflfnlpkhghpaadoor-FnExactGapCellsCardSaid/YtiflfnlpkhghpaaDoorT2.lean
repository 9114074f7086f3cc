/- Gaps: waves of cost tell the least number of free cells. No program text. -/
import Derived.Test.YtiflfnlpkhghpaaDoorT1
namespace Go.Proofs.YtiflfnlpkhghpaaDoor

def gapF (M : List Nat) (own free edge last : Nat) : Nat → Nat → Nat → Int
  | 0, _, _ => -1
  | m + 1, cost, now =>
    if growN M (own ||| now) (now ||| (edge &&& own)) &&& last = 0 then
      if stepFrom free (growN M (own ||| now) (now ||| (edge &&& own))) 0 M (growN M (own ||| now) (now ||| (edge &&& own)) ||| (edge &&& free)) = growN M (own ||| now) (now ||| (edge &&& own)) then -1
      else gapF M own free edge last m (cost + 1) (stepFrom free (growN M (own ||| now) (now ||| (edge &&& own))) 0 M (growN M (own ||| now) (now ||| (edge &&& own)) ||| (edge &&& free)))
    else (cost : Int)
def gapN (M : List Nat) (own free edge last n : Nat) : Int := gapF M own free edge last (n + 1) 0 0

/-- The last side is reached at cost k. -/
def Hits (M : List Nat) (own free edge last k : Nat) : Prop := ∃ j, last.testBit j = true ∧ Cost M edge own free k j
def IsGap (M : List Nat) (own free edge last k : Nat) : Prop := Hits M own free edge last k ∧ ∀ i, i < k → ¬ Hits M own free edge last i

theorem Hits.le {M : List Nat} {own free edge last k k' : Nat} (h : Hits M own free edge last k) (hk : k ≤ k') : Hits M own free edge last k' := by
  obtain ⟨j, hj, h⟩ := h; exact ⟨j, hj, h.le hk⟩

theorem IsGap.unique {M : List Nat} {own free edge last k k' : Nat} (h : IsGap M own free edge last k) (h' : IsGap M own free edge last k') : k = k' := by
  rcases Nat.lt_trichotomy k k' with hlt | e | hgt
  · exact absurd h.1 (h'.2 k hlt)
  · exact e
  · exact absurd h'.1 (h.2 k' hgt)

theorem hits_least {M : List Nat} {own free edge last : Nat} : ∀ k, Hits M own free edge last k → ∃ i, i ≤ k ∧ IsGap M own free edge last i
  | 0, h => ⟨0, Nat.le_refl _, h, fun i hi => by omega⟩
  | k + 1, h => by
    by_cases hk : Hits M own free edge last k
    · obtain ⟨i, hi, hg⟩ := hits_least k hk
      exact ⟨i, by omega, hg⟩
    · exact ⟨k + 1, Nat.le_refl _, h, fun i hi hh => hk (hh.le (by omega))⟩

theorem and_zero {a b : Nat} : a &&& b = 0 ↔ ∀ j, a.testBit j = true → b.testBit j = true → False := by
  constructor
  · intro h j ha hb
    have := congrArg (fun x => x.testBit j) h
    simp [Nat.testBit_and, ha, hb] at this
  · intro h
    apply Nat.eq_of_testBit_eq
    intro j
    rw [Nat.testBit_and, Nat.zero_testBit]
    cases ha : a.testBit j with
    | false => rfl
    | true =>
      cases hb : b.testBit j with
      | false => rfl
      | true => exact (h j ha hb).elim

/-- What is taken away. -/
def without (x c : Nat) : Nat := x ^^^ (x &&& (1 <<< c))
theorem without_bit (x c j : Nat) : (without x c).testBit j = (x.testBit j && decide (j ≠ c)) := by
  unfold without
  rw [Nat.testBit_xor, Nat.testBit_and, one_bit]
  by_cases h : j = c
  · subst h; simp
  · simp [h]
theorem with_bit (x c j : Nat) : (x ||| (1 <<< c)).testBit j = (x.testBit j || decide (j = c)) := by rw [Nat.testBit_or, one_bit]

section
variable {M : List Nat} {own free edge last : Nat}

/-- With a stone more a gap is as great, or one less. -/
theorem gap_more {k c : Nat} (hc : free.testBit c = true) (h : IsGap M own free edge last k) : IsGap M (own ||| (1 <<< c)) (without free c) edge last k ∨ (1 ≤ k ∧ IsGap M (own ||| (1 <<< c)) (without free c) edge last (k - 1)) := by
  have mono : ∀ i, Hits M own free edge last i → Hits M (own ||| (1 <<< c)) (without free c) edge last i := fun i ⟨j, hj, hcost⟩ =>
    ⟨j, hj, hcost.mono (fun x hx => by rw [with_bit, hx]; rfl) (fun x hx => by
      rw [with_bit, without_bit, hx]
      by_cases e : x = c
      · exact .inl (by simp [e])
      · exact .inr (by simp [e]))⟩
  have less : ∀ i, Hits M (own ||| (1 <<< c)) (without free c) edge last i → Hits M own free edge last (i + 1) := fun i ⟨j, hj, hcost⟩ => by
    refine ⟨j, hj, ?_⟩
    rcases hcost.less (own := own) (free := free) hc (fun x hx => by rw [with_bit, Bool.or_eq_true] at hx; exact hx.imp id (fun e => of_decide_eq_true e)) (fun x hx => by rw [without_bit, Bool.and_eq_true] at hx; exact hx.1) with h | ⟨h, _⟩
    · exact h.more
    · exact h
  obtain ⟨i, hi, hg⟩ := hits_least k (mono k h.1)
  have : k ≤ i + 1 := by
    rcases Nat.lt_or_ge (i + 1) k with hlt | hge
    · exact absurd (less i hg.1) (h.2 _ hlt)
    · exact hge
  by_cases e : i = k
  · subst e; exact .inl hg
  · exact .inr ⟨by omega, by rw [show k - 1 = i by omega]; exact hg⟩

/-- There is a cell that makes it one less. -/
theorem gap_cell {k : Nat} (h : IsGap M own free edge last (k + 1)) : ∃ c, free.testBit c = true ∧ IsGap M (own ||| (1 <<< c)) (without free c) edge last k := by
  obtain ⟨⟨j, hj, hcost⟩, hno⟩ := id h
  rcases hcost.cell with hc | ⟨c, hc, hall⟩
  · exact absurd ⟨j, hj, hc⟩ (hno k (by omega))
  · refine ⟨c, hc, ?_⟩
    have hit : Hits M (own ||| (1 <<< c)) (without free c) edge last k := ⟨j, hj, hall _ _ (fun x hx => by rw [with_bit, hx]; rfl) (by rw [with_bit]; simp) (fun x hx => by
      rw [with_bit, without_bit, hx]
      by_cases e : x = c
      · exact .inl (by simp [e])
      · exact .inr (by simp [e]))⟩
    rcases gap_more hc h with hg | ⟨_, hg⟩
    · exact absurd hit (hg.2 k (by omega))
    · exact hg

/-- With nothing more at a cost, nothing is ever reached. -/
theorem hits_closed {k : Nat} (hcl : ∀ j, Cost M edge own free (k + 1) j → Cost M edge own free k j) : ∀ k' j, Cost M edge own free k' j → Cost M edge own free k j := by
  intro k' j h
  induction h with
  | ownEdge h ho => exact .ownEdge h ho
  | freeEdge h hf => exact hcl _ (.freeEdge h hf)
  | ownStep _ ha ho ih => exact .ownStep ih ha ho
  | freeStep _ ha hf ih => exact hcl _ (.freeStep ih ha hf)

end

/-! ### how many -/
def pop (x : Nat) : Nat := (List.range 9).countP fun j => x.testBit j

theorem countP_lt {α : Type} {p q : α → Bool} : ∀ {l : List α} {c : α}, (∀ x ∈ l, q x = true → p x = true) → c ∈ l → p c = true → q c = false → l.countP q + 1 ≤ l.countP p
  | [], _, _, hc, _, _ => by simp at hc
  | x :: l, c, hpq, hc, hp, hq => by
    rw [List.countP_cons, List.countP_cons]
    have hle : l.countP q ≤ l.countP p := List.countP_mono_left fun y hy h => hpq y (by simp [hy]) h
    rcases List.mem_cons.1 hc with rfl | hc
    · simp [hp, hq]; omega
    · have ih := countP_lt (fun y hy h => hpq y (by simp [hy]) h) hc hp hq
      by_cases hqx : q x = true
      · have := hpq x (by simp) hqx
        simp [hqx, this]; omega
      · simp [hqx]; omega

theorem bit_small {x n j : Nat} (hx : x < 2 ^ n) (h : x.testBit j = true) : j < n := by
  rcases Nat.lt_or_ge j n with hlt | hge
  · exact hlt
  · rw [Nat.testBit_lt_two_pow (Nat.lt_of_lt_of_le hx (Nat.pow_le_pow_right (by decide) hge))] at h; cases h

theorem pop_without {x c : Nat} (hx : x < 2 ^ 9) (hc : x.testBit c = true) : pop (without x c) + 1 ≤ pop x :=
  countP_lt (c := c) (fun j _ h => by rw [without_bit, Bool.and_eq_true] at h; exact h.1) (by rw [List.mem_range]; exact bit_small hx hc) hc (by rw [without_bit]; simp)

theorem without_lt {x c n : Nat} (hx : x < 2 ^ n) : without x c < 2 ^ n :=
  Nat.lt_of_le_of_lt (sub_le fun j hj => by rw [without_bit, Bool.and_eq_true] at hj; exact hj.1) hx

theorem gap_pop {M : List Nat} {edge last : Nat} : ∀ {k own free : Nat}, free < 2 ^ 9 → IsGap M own free edge last k → k ≤ pop free
  | 0, _, _, _, _ => Nat.zero_le _
  | k + 1, own, free, hf, h => by
    obtain ⟨c, hc, hg⟩ := gap_cell h
    have := gap_pop (without_lt hf) hg
    have := pop_without hf hc
    omega

theorem pop_le {n x : Nat} (hn : n ≤ 9) (hx : x < 2 ^ n) : pop x ≤ n := by
  unfold pop
  have : (List.range 9).countP (fun j => x.testBit j) ≤ (List.range 9).countP (fun j => decide (j < n)) :=
    List.countP_mono_left fun j _ h => decide_eq_true (bit_small hx h)
  refine Nat.le_trans this ?_
  have : n = 0 ∨ n = 1 ∨ n = 2 ∨ n = 3 ∨ n = 4 ∨ n = 5 ∨ n = 6 ∨ n = 7 ∨ n = 8 ∨ n = 9 := by omega
  rcases this with rfl | rfl | rfl | rfl | rfl | rfl | rfl | rfl | rfl | rfl <;> decide

/-! ### the waves -/
section
variable {M : List Nat} {own free edge last : Nat}

theorem wave_zero (ho : own < 2 ^ 9) (j : Nat) : (growN M (own ||| 0) (0 ||| (edge &&& own))).testBit j = true ↔ Cost M edge own free 0 j := by
  rw [Nat.or_zero, Nat.zero_or, grow_bit ho, cost_zero]
  constructor
  · exact Reach.mono (fun _ h => h) (fun j h => by rw [Nat.testBit_and, Bool.and_eq_true] at h; exact h.1)
  · intro h
    induction h with
    | start h hs => exact .start (by rw [Nat.testBit_and, h, hs]; rfl) hs
    | step _ ha hs ih => exact .step ih ha hs

theorem next_bit {g k : Nat} (hg : ∀ j, g.testBit j = true ↔ Cost M edge own free k j) (j : Nat) :
    (stepFrom free g 0 M (g ||| (edge &&& free))).testBit j = true ↔ Cost M edge own free k j ∨ (edge.testBit j = true ∧ free.testBit j = true) ∨ ∃ i, Cost M edge own free k i ∧ Adj M i j ∧ free.testBit j = true := by
  rw [stepFrom_bit, Nat.testBit_or, Nat.testBit_and, Bool.or_eq_true, Bool.and_eq_true, hg, or_assoc]
  refine or_congr_right (or_congr_right ?_)
  constructor
  · rintro ⟨i, h1, h2, h3⟩
    rw [Nat.zero_add] at h1
    exact ⟨i, (hg i).1 h1, h2, h3⟩
  · rintro ⟨i, h1, h2, h3⟩
    exact ⟨i, by rw [Nat.zero_add]; exact (hg i).2 h1, h2, h3⟩

theorem wave_succ {g k : Nat} (hg : ∀ j, g.testBit j = true ↔ Cost M edge own free k j) (hlt : own ||| stepFrom free g 0 M (g ||| (edge &&& free)) < 2 ^ 9) (j : Nat) :
    (growN M (own ||| stepFrom free g 0 M (g ||| (edge &&& free))) (stepFrom free g 0 M (g ||| (edge &&& free)) ||| (edge &&& own))).testBit j = true ↔ Cost M edge own free (k + 1) j := by
  rw [grow_bit hlt]
  have hn := next_bit hg
  obtain ⟨nx, hnx⟩ : ∃ nx, nx = stepFrom free g 0 M (g ||| (edge &&& free)) := ⟨_, rfl⟩
  rw [← hnx] at hn ⊢
  have up : ∀ j, nx.testBit j = true → Cost M edge own free (k + 1) j := fun j hj => by
    rcases (hn j).1 hj with h | ⟨h, hf⟩ | ⟨i, h, ha, hf⟩
    · exact h.more
    · exact .freeEdge h hf
    · exact .freeStep h ha hf
  constructor
  · intro h
    induction h with
    | start h hs =>
      rw [Nat.testBit_or, Nat.testBit_and, Bool.or_eq_true, Bool.and_eq_true] at h
      rcases h with h | ⟨h, ho⟩
      · exact up _ h
      · exact .ownEdge h ho
    | step _ ha hs ih =>
      rw [Nat.testBit_or, Bool.or_eq_true] at hs
      rcases hs with hs | hs
      · exact .ownStep ih ha hs
      · exact up _ hs
  · intro h
    have inNx : ∀ j, nx.testBit j = true → Reach M (own ||| nx) (nx ||| (edge &&& own)) j := fun j hj =>
      .start (by rw [Nat.testBit_or, hj]; rfl) (by rw [Nat.testBit_or, hj, Bool.or_true])
    generalize hk : k + 1 = k' at h
    induction h with
    | ownEdge h ho => exact .start (by rw [Nat.testBit_or, Nat.testBit_and, h, ho]; simp) (by rw [Nat.testBit_or, ho]; rfl)
    | freeEdge h hf => exact inNx _ ((hn _).2 (.inr (.inl ⟨h, hf⟩)))
    | ownStep _ ha ho ih => exact .step (ih hk) ha (by rw [Nat.testBit_or, ho]; rfl)
    | @freeStep k0 i j h0 ha hf _ =>
      obtain rfl : k = k0 := by omega
      exact inNx _ ((hn _).2 (.inr (.inr ⟨i, h0, ha, hf⟩)))

theorem next_sub {g : Nat} : ∀ j, (stepFrom free g 0 M (g ||| (edge &&& free))).testBit j = true → g.testBit j = true ∨ free.testBit j = true := by
  intro j hj
  rcases (stepFrom_bit free g j M 0 _).1 hj with h | ⟨_, _, _, h⟩
  · rw [Nat.testBit_or, Nat.testBit_and, Bool.or_eq_true, Bool.and_eq_true] at h
    exact h.imp id (fun h => h.2)
  · exact .inr h

theorem gapF_spec (ho : own < 2 ^ 9) (hf : free < 2 ^ 9) : ∀ (m cost now : Nat), (∀ j, (growN M (own ||| now) (now ||| (edge &&& own))).testBit j = true ↔ Cost M edge own free cost j) → (∀ i, i < cost → ¬ Hits M own free edge last i) → (∀ k, IsGap M own free edge last k → k < cost + m) →
    (∃ k : Nat, gapF M own free edge last m cost now = (k : Int) ∧ IsGap M own free edge last k) ∨ (gapF M own free edge last m cost now = -1 ∧ ∀ k, ¬ Hits M own free edge last k)
  | 0, cost, now, hg, hno, hm => by
    refine .inr ⟨rfl, fun k hk => ?_⟩
    obtain ⟨i, _, hi⟩ := hits_least k hk
    exact hno i (by have := hm i hi; omega) hi.1
  | m + 1, cost, now, hg, hno, hm => by
    rw [gapF]
    obtain ⟨gr, hgr⟩ : ∃ gr, gr = growN M (own ||| now) (now ||| (edge &&& own)) := ⟨_, rfl⟩
    rw [← hgr] at hg ⊢
    by_cases hl : gr &&& last = 0
    · rw [if_pos hl]
      have hnh : ¬ Hits M own free edge last cost := fun ⟨j, hj, hc⟩ => and_zero.1 hl j ((hg j).2 hc) hj
      by_cases hn : stepFrom free gr 0 M (gr ||| (edge &&& free)) = gr
      · rw [if_pos hn]
        refine .inr ⟨rfl, fun k ⟨j, hj, hc⟩ => hnh ⟨j, hj, ?_⟩⟩
        refine hits_closed (fun x hx => ?_) k j hc
        have hnb := next_bit hg
        rw [hn] at hnb
        generalize hk : cost + 1 = k' at hx
        induction hx with
        | ownEdge h ho => exact .ownEdge h ho
        | freeEdge h hf => exact (hg _).1 ((hnb _).2 (.inr (.inl ⟨h, hf⟩)))
        | ownStep _ ha ho ih => exact .ownStep (ih hk) ha ho
        | @freeStep k0 i j h0 ha hf _ =>
          obtain rfl : cost = k0 := by omega
          exact (hg _).1 ((hnb _).2 (.inr (.inr ⟨i, h0, ha, hf⟩)))
      · rw [if_neg hn]
        have hlt : own ||| stepFrom free gr 0 M (gr ||| (edge &&& free)) < 2 ^ 9 := by
          refine Nat.or_lt_two_pow ho (Nat.lt_of_le_of_lt (sub_le (b := own ||| free) fun j hj => ?_) (Nat.or_lt_two_pow ho hf))
          rw [Nat.testBit_or, Bool.or_eq_true]
          rcases next_sub j hj with h | h
          · have hc := (hg j).1 h
            cases hc with
            | ownEdge _ h => exact .inl h
            | freeEdge _ h => exact .inr h
            | ownStep _ _ h => exact .inl h
            | freeStep _ _ h => exact .inr h
          · exact .inr h
        refine gapF_spec ho hf m (cost + 1) _ (wave_succ hg hlt) (fun i hi => ?_) (fun k hk => by have := hm k hk; omega)
        rcases Nat.lt_or_ge i cost with h | h
        · exact hno i h
        · obtain rfl : i = cost := by omega
          exact hnh
    · rw [if_neg hl]
      refine .inl ⟨cost, rfl, ?_, hno⟩
      apply Classical.byContradiction
      intro hh
      exact hl (and_zero.2 fun j h1 h2 => hh ⟨j, h2, (hg j).1 h1⟩)

theorem gapN_spec {n : Nat} (hn : n ≤ 9) (ho : own < 2 ^ 9) (hf : free < 2 ^ n) :
    (∃ k : Nat, gapN M own free edge last n = (k : Int) ∧ IsGap M own free edge last k) ∨ (gapN M own free edge last n = -1 ∧ ∀ k, ¬ Hits M own free edge last k) := by
  have hf9 : free < 2 ^ 9 := Nat.lt_of_lt_of_le hf (Nat.pow_le_pow_right (by decide) hn)
  exact gapF_spec ho hf9 (n + 1) 0 0 (wave_zero ho) (fun i hi => by omega) (fun k hk => by have := gap_pop hf9 hk; have := pop_le hn hf; omega)

end

end Go.Proofs.YtiflfnlpkhghpaaDoor
