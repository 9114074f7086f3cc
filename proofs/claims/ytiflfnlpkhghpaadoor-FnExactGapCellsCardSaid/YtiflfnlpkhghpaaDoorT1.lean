/- Sets of cells as bits: what grows, what is reached, and at what cost. No program text. -/
import Derived.Test.YtiflfnlpkhghpaaDoorN4
namespace Go.Proofs.YtiflfnlpkhghpaaDoor

theorem bit_iff (x k : Nat) : x >>> k % 2 = 1 ↔ x.testBit k = true := by
  rw [Nat.testBit_eq_decide_div_mod_eq, Nat.shiftRight_eq_div_pow, decide_eq_true_iff]

/-- Cell j is beside cell k: the masks tell the neighbours of each cell. -/
def Adj (M : List Nat) (k j : Nat) : Prop := (M.getD k 0).testBit j = true

inductive Reach (M : List Nat) (set fr : Nat) : Nat → Prop
  | start {j} (h : fr.testBit j = true) (hs : set.testBit j = true) : Reach M set fr j
  | step {k j} (h : Reach M set fr k) (ha : Adj M k j) (hs : set.testBit j = true) : Reach M set fr j

theorem Reach.inSet {M : List Nat} {set fr j : Nat} (h : Reach M set fr j) : set.testBit j = true := by
  cases h <;> assumption

theorem Reach.mono {M : List Nat} {set fr set' fr' : Nat} (hs : ∀ j, set.testBit j = true → set'.testBit j = true) (hf : ∀ j, fr.testBit j = true → fr'.testBit j = true) {j : Nat} (h : Reach M set fr j) : Reach M set' fr' j := by
  induction h with
  | start h h' => exact .start (hf _ h) (hs _ h')
  | step _ ha h' ih => exact .step ih ha (hs _ h')

theorem Reach.trans {M : List Nat} {set fr fr' : Nat} (hf : ∀ j, fr'.testBit j = true → Reach M set fr j) {j : Nat} (h : Reach M set fr' j) : Reach M set fr j := by
  induction h with
  | start h _ => exact hf _ h
  | step _ ha h' ih => exact .step ih ha h'

theorem one_bit (k j : Nat) : (1 <<< k).testBit j = decide (j = k) := by
  rw [Nat.one_shiftLeft, Nat.testBit_two_pow]
  by_cases h : j = k
  · subst h; simp
  · simp [h]; exact fun e => h e.symm

/-- From one cell to another, and back. -/
theorem Reach.back {M : List Nat} (sym : ∀ k j, Adj M k j → Adj M j k) {set a b : Nat} (ha : set.testBit a = true) (h : Reach M set (1 <<< a) b) : Reach M set (1 <<< b) a := by
  induction h with
  | @start j h _ =>
    rw [one_bit] at h
    have : j = a := of_decide_eq_true h
    subst this
    exact .start (by rw [one_bit]; simp) ha
  | @step k j _ hk hj ih =>
    refine ih.trans fun i hi => ?_
    rw [one_bit] at hi
    have : i = k := of_decide_eq_true hi
    subst this
    rename_i hk'
    exact .step (.start (by rw [one_bit]; simp) hj) (sym _ _ hk) hk'.inSet

/-! ### growing -/
def stepFrom (set now : Nat) : Nat → List Nat → Nat → Nat
  | _, [], nx => nx
  | k, m :: ms, nx => stepFrom set now (k + 1) ms (if now >>> k % 2 = 1 then nx ||| (m &&& set) else nx)

theorem stepFrom_le (set now : Nat) : ∀ (ms : List Nat) (k nx : Nat), nx ≤ stepFrom set now k ms nx
  | [], _, _ => Nat.le_refl _
  | m :: ms, k, nx => by
    rw [stepFrom]
    refine Nat.le_trans ?_ (stepFrom_le set now ms (k + 1) _)
    split
    · exact Nat.left_le_or
    · exact Nat.le_refl _

theorem stepFrom_bit (set now : Nat) (j : Nat) : ∀ (ms : List Nat) (k nx : Nat), (stepFrom set now k ms nx).testBit j = true ↔ nx.testBit j = true ∨ ∃ i, now.testBit (k + i) = true ∧ (ms.getD i 0).testBit j = true ∧ set.testBit j = true
  | [], k, nx => by simp [stepFrom]
  | m :: ms, k, nx => by
    rw [stepFrom, stepFrom_bit set now j ms (k + 1)]
    have hsplit : (∃ i, now.testBit (k + i) = true ∧ ((m :: ms).getD i 0).testBit j = true ∧ set.testBit j = true) ↔ (now.testBit k = true ∧ m.testBit j = true ∧ set.testBit j = true) ∨ ∃ i, now.testBit (k + 1 + i) = true ∧ (ms.getD i 0).testBit j = true ∧ set.testBit j = true := by
      constructor
      · rintro ⟨i, h⟩
        cases i with
        | zero => exact .inl (by simpa using h)
        | succ i => exact .inr ⟨i, by rw [show k + 1 + i = k + (i + 1) by omega]; simpa using h⟩
      · rintro (h | ⟨i, h⟩)
        · exact ⟨0, by simpa using h⟩
        · exact ⟨i + 1, by rw [show k + (i + 1) = k + 1 + i by omega]; simpa using h⟩
    rw [hsplit]
    by_cases hb : now >>> k % 2 = 1
    · rw [if_pos hb, Nat.testBit_or, Nat.testBit_and]
      have hb' := (bit_iff now k).1 hb
      simp [hb', or_assoc]
    · rw [if_neg hb]
      have hb' : ¬ now.testBit k = true := fun h => hb ((bit_iff now k).2 h)
      simp [hb']

def growF (M : List Nat) (set : Nat) : Nat → Nat → Nat
  | 0, now => now
  | f + 1, now => if stepFrom set now 0 M now = now then now else growF M set f (stepFrom set now 0 M now)
def growN (M : List Nat) (set fr : Nat) : Nat := growF M set 600 (fr &&& set)

theorem sub_and {a b : Nat} (h : ∀ j, a.testBit j = true → b.testBit j = true) : a &&& b = a := by
  apply Nat.eq_of_testBit_eq
  intro j
  rw [Nat.testBit_and]
  cases e : a.testBit j with
  | false => rfl
  | true => rw [h j e]; rfl

theorem sub_le {a b : Nat} (h : ∀ j, a.testBit j = true → b.testBit j = true) : a ≤ b := by
  rw [← sub_and h]; exact Nat.and_le_right

theorem step_sub {M : List Nat} {set now : Nat} (h : ∀ j, now.testBit j = true → set.testBit j = true) : ∀ j, (stepFrom set now 0 M now).testBit j = true → set.testBit j = true := by
  intro j hj
  rcases (stepFrom_bit set now j M 0 now).1 hj with hj | ⟨_, _, _, hj⟩
  · exact h j hj
  · exact hj

theorem growF_fix {M : List Nat} {set : Nat} : ∀ (f now : Nat), (∀ j, now.testBit j = true → set.testBit j = true) → set < now + f → stepFrom set (growF M set f now) 0 M (growF M set f now) = growF M set f now ∧ (∀ j, now.testBit j = true → (growF M set f now).testBit j = true)
  | 0, now, hs, hf => by have := sub_le hs; omega
  | f + 1, now, hs, hf => by
    rw [growF]
    split
    · rename_i h; exact ⟨h, fun _ h => h⟩
    · rename_i h
      have hle := stepFrom_le set now M 0 now
      have ih := growF_fix (M := M) f (stepFrom set now 0 M now) (step_sub hs) (by omega)
      exact ⟨ih.1, fun j hj => ih.2 j ((stepFrom_bit set now j M 0 now).2 (.inl hj))⟩

theorem growF_reach {M : List Nat} {set fr : Nat} : ∀ (f now : Nat), (∀ j, now.testBit j = true → Reach M set fr j) → ∀ j, (growF M set f now).testBit j = true → Reach M set fr j
  | 0, now, hs, j, hj => hs j hj
  | f + 1, now, hs, j, hj => by
    rw [growF] at hj
    split at hj
    · exact hs j hj
    · refine growF_reach f _ (fun i hi => ?_) j hj
      rcases (stepFrom_bit set now i M 0 now).1 hi with hi | ⟨k, h1, h2, h3⟩
      · exact hs i hi
      · rw [Nat.zero_add] at h1
        exact .step (hs k h1) h2 h3

theorem grow_bit {M : List Nat} {set fr : Nat} (hset : set < 2 ^ 9) (j : Nat) : (growN M set fr).testBit j = true ↔ Reach M set fr j := by
  have hsub : ∀ j, (fr &&& set).testBit j = true → set.testBit j = true := fun j hj => by rw [Nat.testBit_and, Bool.and_eq_true] at hj; exact hj.2
  constructor
  · refine growF_reach 600 _ (fun i hi => ?_) j
    rw [Nat.testBit_and, Bool.and_eq_true] at hi
    exact .start hi.1 hi.2
  · obtain ⟨hfix, hin⟩ := growF_fix (M := M) 600 (fr &&& set) hsub (by omega)
    intro h
    induction h with
    | start h hs => exact hin _ (by rw [Nat.testBit_and, h, hs]; rfl)
    | @step k j _ ha hs ih =>
      unfold growN at ih ⊢
      rw [← hfix]
      exact (stepFrom_bit set _ j M 0 _).2 (.inr ⟨k, by rw [Nat.zero_add]; exact ih, ha, hs⟩)

theorem grow_lt {M : List Nat} {set fr : Nat} (hset : set < 2 ^ 9) : growN M set fr < 2 ^ 9 :=
  Nat.lt_of_le_of_lt (sub_le fun j hj => ((grow_bit hset j).1 hj).inSet) hset

/-! ### at what cost -/
/-- Cell j is reached from the edge over own cells and at most k free ones. -/
inductive Cost (M : List Nat) (edge own free : Nat) : Nat → Nat → Prop
  | ownEdge {k j} (h : edge.testBit j = true) (ho : own.testBit j = true) : Cost M edge own free k j
  | freeEdge {k j} (h : edge.testBit j = true) (hf : free.testBit j = true) : Cost M edge own free (k + 1) j
  | ownStep {k i j} (h : Cost M edge own free k i) (ha : Adj M i j) (ho : own.testBit j = true) : Cost M edge own free k j
  | freeStep {k i j} (h : Cost M edge own free k i) (ha : Adj M i j) (hf : free.testBit j = true) : Cost M edge own free (k + 1) j

theorem Cost.more {M : List Nat} {edge own free k j : Nat} (h : Cost M edge own free k j) : Cost M edge own free (k + 1) j := by
  induction h with
  | ownEdge h ho => exact .ownEdge h ho
  | freeEdge h hf => exact .freeEdge h hf
  | ownStep _ ha ho ih => exact .ownStep ih ha ho
  | freeStep _ ha hf ih => exact .freeStep ih ha hf

theorem Cost.le {M : List Nat} {edge own free k k' j : Nat} (h : Cost M edge own free k j) (hk : k ≤ k') : Cost M edge own free k' j := by
  obtain ⟨d, rfl⟩ : ∃ d, k' = k + d := ⟨k' - k, by omega⟩
  clear hk
  induction d with
  | zero => exact h
  | succ d ih => exact ih.more

/-- Own cells more, free cells that are now own: no dearer. -/
theorem Cost.mono {M : List Nat} {edge own free own' free' : Nat} (ho : ∀ j, own.testBit j = true → own'.testBit j = true) (hf : ∀ j, free.testBit j = true → own'.testBit j = true ∨ free'.testBit j = true) {k j : Nat} (h : Cost M edge own free k j) : Cost M edge own' free' k j := by
  induction h with
  | ownEdge h h' => exact .ownEdge h (ho _ h')
  | freeEdge h h' =>
    rcases hf _ h' with h' | h'
    · exact .ownEdge h h'
    · exact .freeEdge h h'
  | ownStep _ ha h' ih => exact .ownStep ih ha (ho _ h')
  | freeStep _ ha h' ih =>
    rcases hf _ h' with h' | h'
    · exact (Cost.ownStep ih ha h').more
    · exact .freeStep ih ha h'

/-- One own cell more, at c, makes it cheaper by one at most. -/
theorem Cost.less {M : List Nat} {edge own free own' free' c : Nat} (hc : free.testBit c = true) (ho : ∀ j, own'.testBit j = true → own.testBit j = true ∨ j = c) (hf : ∀ j, free'.testBit j = true → free.testBit j = true) {k j : Nat} (h : Cost M edge own' free' k j) :
    Cost M edge own free k j ∨ (Cost M edge own free (k + 1) j ∧ Cost M edge own free (k + 1) c) := by
  induction h with
  | ownEdge h h' =>
    rcases ho _ h' with h' | rfl
    · exact .inl (.ownEdge h h')
    · exact .inr ⟨.freeEdge h hc, .freeEdge h hc⟩
  | freeEdge h h' => exact .inl (.freeEdge h (hf _ h'))
  | ownStep _ ha h' ih =>
    rcases ho _ h' with h' | rfl
    · rcases ih with ih | ⟨ih, ih2⟩
      · exact .inl (.ownStep ih ha h')
      · exact .inr ⟨.ownStep ih ha h', ih2⟩
    · rcases ih with ih | ⟨_, ih2⟩
      · exact .inr ⟨.freeStep ih ha hc, .freeStep ih ha hc⟩
      · exact .inr ⟨ih2, ih2⟩
  | freeStep _ ha h' ih =>
    rcases ih with ih | ⟨ih, ih2⟩
    · exact .inl (.freeStep ih ha (hf _ h'))
    · exact .inr ⟨.freeStep ih ha (hf _ h'), ih2.more⟩

/-- What is dear by one more is so by some free cell: with that one own it is not. -/
theorem Cost.cell {M : List Nat} {edge own free k j : Nat} (h : Cost M edge own free (k + 1) j) :
    Cost M edge own free k j ∨ ∃ c, free.testBit c = true ∧ ∀ own' free', (∀ j, own.testBit j = true → own'.testBit j = true) → own'.testBit c = true → (∀ j, free.testBit j = true → own'.testBit j = true ∨ free'.testBit j = true) → Cost M edge own' free' k j := by
  generalize hk : k + 1 = k' at h
  induction h generalizing k with
  | ownEdge h h' => exact .inl (.ownEdge h h')
  | @freeEdge k0 j h h' => exact .inr ⟨j, h', fun own' free' _ hc _ => .ownEdge h hc⟩
  | ownStep _ ha h' ih =>
    rcases ih hk with ih | ⟨c, hc, ih⟩
    · exact .inl (.ownStep ih ha h')
    · exact .inr ⟨c, hc, fun own' free' ho hoc hf => .ownStep (ih own' free' ho hoc hf) ha (ho _ h')⟩
  | @freeStep k0 i j h0 ha h' _ =>
    obtain rfl : k = k0 := by omega
    exact .inr ⟨j, h', fun own' free' ho hoc hf => .ownStep (h0.mono ho hf) ha hoc⟩

theorem cost_zero {M : List Nat} {edge own free j : Nat} : Cost M edge own free 0 j ↔ Reach M own edge j := by
  constructor
  · intro h
    generalize hk : 0 = k at h
    induction h with
    | ownEdge h ho => exact .start h ho
    | freeEdge => cases hk
    | ownStep _ ha ho ih => exact .step (ih hk) ha ho
    | freeStep => cases hk
  · intro h
    induction h with
    | start h hs => exact .ownEdge h hs
    | step _ ha hs ih => exact .ownStep ih ha hs

theorem cost_any {M : List Nat} {edge own free j : Nat} : (∃ k, Cost M edge own free k j) ↔ Reach M (own ||| free) edge j := by
  constructor
  · rintro ⟨k, h⟩
    induction h with
    | ownEdge h ho => exact .start h (by rw [Nat.testBit_or, ho]; rfl)
    | freeEdge h hf => exact .start h (by rw [Nat.testBit_or, hf, Bool.or_true])
    | ownStep _ ha ho ih => exact .step ih ha (by rw [Nat.testBit_or, ho]; rfl)
    | freeStep _ ha hf ih => exact .step ih ha (by rw [Nat.testBit_or, hf, Bool.or_true])
  · intro h
    induction h with
    | start h hs =>
      rw [Nat.testBit_or, Bool.or_eq_true] at hs
      rcases hs with hs | hs
      · exact ⟨0, .ownEdge h hs⟩
      · exact ⟨1, .freeEdge h hs⟩
    | step _ ha hs ih =>
      obtain ⟨k, ih⟩ := ih
      rw [Nat.testBit_or, Bool.or_eq_true] at hs
      rcases hs with hs | hs
      · exact ⟨k, .ownStep ih ha hs⟩
      · exact ⟨k + 1, .freeStep ih ha hs⟩

end Go.Proofs.YtiflfnlpkhghpaaDoor
