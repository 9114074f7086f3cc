/- Texts of this seat, in their order, put together by program. -/
import Derived.Test.YtpaehbfknlpkbadDoorK11
import Derived.Lib.Bytealg
set_option linter.unusedSimpArgs false
set_option linter.unusedVariables false
set_option linter.unusedSectionVars false
/- Records of play: moves one after the other; what stands at the end, which moves are slips, the best record; turned records. -/
set_option maxRecDepth 20000
namespace Go.Proofs.YtpaehbfknlpkbadDoor
open Go Go.Ip

theorem boardB_nat {r c : Int} (h : boardB r c = true) : ∃ R C : Nat, r = (R : Int) ∧ c = (C : Int) ∧ BoardOf R C := by
  unfold boardB at h
  have := of_decide_eq_true h
  obtain ⟨R, rfl⟩ := Int.eq_ofNat_of_zero_le (show 0 ≤ r by omega)
  obtain ⟨C, rfl⟩ := Int.eq_ofNat_of_zero_le (show 0 ≤ c by omega)
  have h9 : ((R * C : Nat) : Int) ≤ 9 := by rw [Int.natCast_mul]; exact this.2.2.2.2
  exact ⟨R, C, rfl, rfl, by omega, by omega, by omega, by omega, by omega⟩

/-- The position behind moves, if all of them may be made. -/
def playTo (r c : Int) : List Int → Int → List Int → Option (List Int)
  | xs, _, [] => some xs
  | xs, t, m :: ms => if moveL r c xs m t = true then playTo r c (xs.set m.toNat t) (3 - t) ms else none
def startL (r c : Int) : List Int := List.replicate (r * c).toNat 0
def recB (r c : Int) (ms : List Int) : Bool := boardB r c && (playTo r c (startL r c) 1 ms).isSome
/-- Who is to move behind so many moves. -/
def turnAt (t : Int) (n : Nat) : Int := if n % 2 = 0 then t else 3 - t
def recEnd (r c : Int) (ms : List Int) : List Int := if boardB r c = true then (playTo r c (startL r c) 1 ms).getD [] else []
def recTurn (r c : Int) (ms : List Int) : Int := if recB r c ms = true then turnAt 1 ms.length else 0

theorem turnAt_succ (t : Int) (n : Nat) : turnAt (3 - t) n = turnAt t (n + 1) := by
  unfold turnAt
  rcases Nat.mod_two_eq_zero_or_one n with h | h
  · rw [if_pos h, if_neg (by omega)]
  · rw [if_neg (by omega), if_pos (by omega)]; omega
theorem turnAt_player {t : Int} (ht : t = 1 ∨ t = 2) (n : Nat) : turnAt t n = 1 ∨ turnAt t n = 2 := by
  unfold turnAt; split <;> omega
theorem playTo_append (r c : Int) : ∀ (ms ns : List Int) (xs : List Int) (t : Int), playTo r c xs t (ms ++ ns) = (playTo r c xs t ms).bind fun ys => playTo r c ys (turnAt t ms.length) ns
  | [], ns, xs, t => by simp [playTo, turnAt]
  | m :: ms, ns, xs, t => by
    simp only [List.cons_append, playTo]
    by_cases h : moveL r c xs m t = true
    · rw [if_pos h, if_pos h, playTo_append r c ms ns, turnAt_succ]; rfl
    · rw [if_neg h, if_neg h]; rfl

/-- A move that may be made: its cell. -/
theorem move_cell {r c : Int} {xs : List Int} {m t : Int} (h : moveL r c xs m t = true) : ∃ k : Nat, m = (k : Int) ∧ xs[k]? = some 0 ∧ k < xs.length := by
  obtain ⟨k, rfl, hk⟩ := moveL_cell h
  exact ⟨k, rfl, (moveL_iff.1 h).2.2.1, hk⟩

theorem playTo_length (r c : Int) : ∀ (ms : List Int) (xs : List Int) (t : Int) (ys : List Int), playTo r c xs t ms = some ys → ys.length = xs.length
  | [], xs, t, ys, h => by cases h; rfl
  | m :: ms, xs, t, ys, h => by
    simp only [playTo] at h
    split at h
    · rw [playTo_length r c ms _ _ _ h, List.length_set]
    · cases h
theorem playTo_pos {r c : Int} : ∀ (ms : List Int) (xs : List Int) (t : Int) (ys : List Int), (t = 1 ∨ t = 2) → posB r c xs = true → playTo r c xs t ms = some ys → posB r c ys = true
  | [], xs, t, ys, _, hp, h => by cases h; exact hp
  | m :: ms, xs, t, ys, ht, hp, h => by
    simp only [playTo] at h
    split at h
    · rename_i hm
      obtain ⟨k, rfl, hk, hlt⟩ := move_cell hm
      obtain ⟨R, C, hS⟩ := sides_of hp
      obtain ⟨rfl, rfl, _⟩ := id hS
      refine playTo_pos ms _ _ ys (by omega) ?_ h
      rcases ht with rfl | rfl
      · exact pos_set hp (P := 1) (.inl rfl) k
      · exact pos_set hp (P := 2) (.inr rfl) k
    · cases h

/-- The moves' cells are free at first, and differ. -/
theorem playTo_free {r c : Int} : ∀ (ms : List Int) (xs : List Int) (t : Int) (ys : List Int), (t = 1 ∨ t = 2) → playTo r c xs t ms = some ys → (∀ m ∈ ms, ∃ k : Nat, m = (k : Int) ∧ xs[k]? = some 0) ∧ ms.Pairwise (· ≠ ·)
  | [], xs, t, ys, _, _ => ⟨fun m hm => (by cases hm), List.Pairwise.nil⟩
  | m :: ms, xs, t, ys, ht, h => by
    simp only [playTo] at h
    split at h
    · rename_i hm
      obtain ⟨k, rfl, hk, hlt⟩ := move_cell hm
      obtain ⟨h1, h2⟩ := playTo_free ms _ _ ys (by omega) h
      have hne : ∀ m' ∈ ms, ∃ k' : Nat, m' = (k' : Int) ∧ xs[k']? = some 0 ∧ k' ≠ k := by
        intro m' hm'
        obtain ⟨k', rfl, hk'⟩ := h1 m' hm'
        have hne : k' ≠ k := by
          rintro rfl
          rw [Int.toNat_natCast, List.getElem?_set_self hlt] at hk'
          have := Option.some.inj hk'; omega
        refine ⟨k', rfl, ?_, hne⟩
        rw [Int.toNat_natCast, List.getElem?_set_ne (by omega)] at hk'; exact hk'
      refine ⟨fun m' hm' => ?_, List.Pairwise.cons (fun m' hm' => ?_) h2⟩
      · rcases List.mem_cons.1 hm' with rfl | hm'
        · exact ⟨k, rfl, hk⟩
        · obtain ⟨k', e, h0, _⟩ := hne m' hm'; exact ⟨k', e, h0⟩
      · obtain ⟨k', e, _, hn⟩ := hne m' hm'; omega
    · cases h

theorem start_length {r c : Int} : (startL r c).length = (r * c).toNat := by unfold startL; rw [List.length_replicate]
theorem start_pos {r c : Int} (hb : boardB r c = true) : posB r c (startL r c) = true := by
  obtain ⟨R, C, rfl, rfl, hB⟩ := boardB_nat hb
  exact posB_free hb (by rw [← Int.natCast_mul]; rfl)

theorem rec_cells {r c : Int} {ms : List Int} (h : recB r c ms = true) : ∀ m ∈ ms, ∃ k : Nat, m = (k : Int) ∧ (k : Int) < r * c := by
  unfold recB at h
  rw [Bool.and_eq_true] at h
  obtain ⟨R, C, rfl, rfl, hB⟩ := boardB_nat h.1
  obtain ⟨ys, hy⟩ := Option.isSome_iff_exists.1 h.2
  intro m hm
  obtain ⟨k, e, hk⟩ := (playTo_free ms _ _ ys (.inl rfl) hy).1 m hm
  refine ⟨k, e, ?_⟩
  have := (List.getElem?_eq_some_iff.1 hk).1
  rw [start_length] at this
  omega
/-! ### the stones at the end -/
theorem count_put {xs : List Int} {k : Nat} {a b : Int} (hk : xs[k]? = some 0) (hb : b ≠ 0) : (xs.set k a).count b = xs.count b + (if a = b then 1 else 0) := by
  have hlt := (List.getElem?_eq_some_iff.1 hk).1
  have h0 : xs[k] = 0 := (List.getElem?_eq_some_iff.1 hk).2
  rw [List.count_set hlt, h0]
  have e1 : ((0 : Int) == b) = false := beq_eq_false_iff_ne.2 (Ne.symm hb)
  rw [e1]
  by_cases hab : a = b
  · subst hab; simp
  · rw [if_neg hab]
    have : (a == b) = false := beq_eq_false_iff_ne.2 hab
    rw [this]; simp
theorem playTo_count {r c : Int} : ∀ (ms : List Int) (xs : List Int) (t : Int) (ys : List Int), (t = 1 ∨ t = 2) → playTo r c xs t ms = some ys →
    ys.count t = xs.count t + (ms.length + 1) / 2 ∧ ys.count (3 - t) = xs.count (3 - t) + ms.length / 2
  | [], xs, t, ys, _, h => by cases h; simp
  | m :: ms, xs, t, ys, ht, h => by
    simp only [playTo] at h
    split at h
    · rename_i hm
      obtain ⟨k, rfl, hk, hlt⟩ := move_cell hm
      have ih := playTo_count ms _ _ ys (by omega) h
      rw [Int.toNat_natCast, show (3 : Int) - (3 - t) = t by omega] at ih
      rw [count_put hk (by omega), count_put hk (by omega), if_pos rfl, if_neg (by omega)] at ih
      rw [List.length_cons]
      omega
    · cases h
/-- Who is to move has not joined. -/
theorem playTo_open {r c : Int} : ∀ (ms : List Int) (xs : List Int) (t : Int) (ys : List Int), (t = 1 ∨ t = 2) → posB r c xs = true → playTo r c xs t ms = some ys → joinsL r c xs t = false → joinsL r c ys (turnAt t ms.length) = false
  | [], xs, t, ys, _, _, h, hj => by cases h; exact hj
  | m :: ms, xs, t, ys, ht, hp, h, hj => by
    simp only [playTo] at h
    split at h
    · rename_i hm
      obtain ⟨k, rfl, hk, hlt⟩ := move_cell hm
      obtain ⟨R, C, hS⟩ := sides_of hp
      obtain ⟨rfl, rfl, _⟩ := id hS
      rw [List.length_cons, ← turnAt_succ]
      have hmv := moveL_iff.1 hm
      have key : ∀ P : Nat, (P = 1 ∨ P = 2) → t = (P : Int) → posB (R : Int) (C : Int) (xs.set k t) = true ∧ joinsL (R : Int) (C : Int) (xs.set k t) (3 - t) = false := by
        rintro P hP rfl
        refine ⟨pos_set hp hP k, ?_⟩
        have := joins_other_set hp hP hk
        rw [show (3 : Int) - (P : Int) = ((3 - P : Nat) : Int) by omega, this]
        rcases hP with rfl | rfl
        · exact hmv.2.2.2.2
        · exact hmv.2.2.2.1
      obtain ⟨q1, q2⟩ := key t.toNat (by omega) (by omega)
      rw [Int.toNat_natCast] at h
      exact playTo_open ms _ _ ys (by omega) q1 h q2
    · cases h
theorem start_open {r c : Int} {t : Int} (hb : boardB r c = true) (ht : t = 1 ∨ t = 2) : joinsL r c (startL r c) t = false := by
  obtain ⟨R, C, rfl, rfl, hB⟩ := boardB_nat hb
  have hp := start_pos hb
  have hz : ∀ w : Int, w ≠ 0 → setL (startL (R : Int) (C : Int)) w = 0 := by
    intro w hw
    apply Nat.eq_of_testBit_eq
    intro j
    rw [Nat.zero_testBit]
    cases e : (setL (startL (R : Int) (C : Int)) w).testBit j with
    | false => rfl
    | true =>
      have := setL_bit.1 e
      unfold startL at this
      rw [List.getElem?_replicate] at this
      split at this
      · have := Option.some.inj this; omega
      · cases this
  rcases ht with rfl | rfl
  · rw [joins_one hp, hz 1 (by decide)]; exact zero_not
  · rw [joins_two hp, hz 2 (by decide)]; exact zero_not

/-- What is at the end of a record. -/
theorem rec_end {r c : Int} {ms : List Int} (h : recB r c ms = true) : playTo r c (startL r c) 1 ms = some (recEnd r c ms) ∧ posB r c (recEnd r c ms) = true ∧ (recTurn r c ms = turnAt 1 ms.length) ∧ joinsL r c (recEnd r c ms) (recTurn r c ms) = false ∧
    (recEnd r c ms).count 1 = (ms.length + 1) / 2 ∧ (recEnd r c ms).count 2 = ms.length / 2 := by
  have hr := h
  unfold recB at h
  rw [Bool.and_eq_true] at h
  obtain ⟨ys, hy⟩ := Option.isSome_iff_exists.1 h.2
  have he : recEnd r c ms = ys := by unfold recEnd; rw [if_pos h.1, hy]; rfl
  have ht : recTurn r c ms = turnAt 1 ms.length := by unfold recTurn; rw [if_pos hr]
  rw [he, ht]
  have hc := playTo_count ms _ _ ys (.inl rfl) hy
  have z1 : (startL r c).count 1 = 0 := by unfold startL; rw [List.count_replicate]; simp
  have z2 : (startL r c).count 2 = 0 := by unfold startL; rw [List.count_replicate]; simp
  refine ⟨hy, playTo_pos ms _ _ ys (.inl rfl) (start_pos h.1) hy, rfl, playTo_open ms _ _ ys (.inl rfl) (start_pos h.1) hy (start_open h.1 (.inl rfl)), ?_, ?_⟩
  · rw [hc.1, z1]; omega
  · have := hc.2
    rw [show (3 : Int) - 1 = 2 by decide] at this
    rw [this, z2]; omega

theorem count_two {a b : Int} (hab : a ≠ b) : ∀ (l : List Int), l.count a + l.count b ≤ l.length
  | [] => by simp
  | x :: l => by
    have ih := count_two hab l
    rw [List.count_cons, List.count_cons, List.length_cons]
    by_cases h1 : x = a
    · subst h1
      have h2 : (x == b) = false := beq_eq_false_iff_ne.2 hab
      rw [h2]; simp; omega
    · have h2 : (x == a) = false := beq_eq_false_iff_ne.2 h1
      rw [h2]
      have h3 : (if (x == b) = true then 1 else 0) ≤ 1 := by split <;> omega
      simp only [Bool.false_eq_true, if_false]
      omega
/-- A record has at most as many moves as cells. -/
theorem rec_length {r c : Int} {ms : List Int} (h : recB r c ms = true) : (ms.length : Int) ≤ r * c ∧ ms.length ≤ 9 := by
  obtain ⟨h1, h2, _, _, h3, h4⟩ := rec_end h
  have hc := count_two (show (1 : Int) ≠ 2 by decide) (recEnd r c ms)
  obtain ⟨R, C, hS⟩ := sides_of h2
  obtain ⟨rfl, rfl, _, _, _, _, h9, hl, _⟩ := id hS
  rw [← Int.natCast_mul]
  omega

/-! ### slips -/
def slipsF (r c : Int) : List Int → Int → Nat → List Int → List Int
  | _, _, _, [] => []
  | xs, t, k, m :: ms => (if winL r c xs t = t ∧ winL r c (xs.set m.toNat t) (3 - t) ≠ t then [(k : Int)] else []) ++ slipsF r c (xs.set m.toNat t) (3 - t) (k + 1) ms
def slipsL (r c : Int) (ms : List Int) : List Int := if recB r c ms = true ∧ r * c ≤ 6 then slipsF r c (startL r c) 1 0 ms else []

theorem slipsF_bounds (r c : Int) : ∀ (ms : List Int) (xs : List Int) (t : Int) (k : Nat), (slipsF r c xs t k ms).Pairwise (· < ·) ∧ (∀ e ∈ slipsF r c xs t k ms, (k : Int) ≤ e) ∧ (slipsF r c xs t k ms).length ≤ ms.length
  | [], xs, t, k => ⟨List.Pairwise.nil, fun e he => (by cases he), Nat.le_refl _⟩
  | m :: ms, xs, t, k => by
    obtain ⟨h1, h2, h3⟩ := slipsF_bounds r c ms (xs.set m.toNat t) (3 - t) (k + 1)
    simp only [slipsF]
    split
    · refine ⟨List.Pairwise.cons (fun e he => by have := h2 e he; omega) h1, fun e he => ?_, by simp only [List.singleton_append, List.length_cons]; omega⟩
      rcases List.mem_cons.1 he with rfl | he
      · exact Int.le_refl _
      · have := h2 e he; omega
    · exact ⟨h1, fun e he => by have := h2 e (by simpa using he); omega, by simp only [List.nil_append, List.length_cons]; omega⟩

/-! ### the best record -/
/-! ### turned records -/
end Go.Proofs.YtpaehbfknlpkbadDoor

/- Names of cells and texts of records, as lists of bytes: none says two things, and each is read again. -/
set_option maxRecDepth 20000
namespace Go.Proofs.YtpaehbfknlpkbadDoor
open Go Go.Ip

theorem u8_inj {a b : Nat} (ha : a < 256) (hb : b < 256) (h : UInt8.ofNat a = UInt8.ofNat b) : a = b := by
  have := congrArg UInt8.toNat h
  rw [UInt8.toNat_ofNat', UInt8.toNat_ofNat'] at this
  omega

/-! ### names of cells -/
def nameL (c m : Nat) : List UInt8 := [UInt8.ofNat (97 + m % c), UInt8.ofNat (49 + m / c)]
def cellT (r c k : Int) : List UInt8 := if boardB r c = true ∧ 0 ≤ k ∧ k < r * c then nameL c.toNat k.toNat else []
def readI (r c : Int) (s : List UInt8) : Option Nat := if boardB r c = true then (List.range (r * c).toNat).find? fun k => decide (cellT r c (k : Int) = s) else none

theorem name_inj {c m m' : Nat} (hc : 1 ≤ c) (hm : m < 9) (hm' : m' < 9) (hc4 : c ≤ 4) (h : nameL c m = nameL c m') : m = m' := by
  unfold nameL at h
  simp only [List.cons.injEq, and_true] at h
  have l1 := Nat.mod_lt m (show c > 0 by omega)
  have l2 := Nat.mod_lt m' (show c > 0 by omega)
  have d1 := Nat.div_le_self m c
  have d2 := Nat.div_le_self m' c
  have e1 := u8_inj (by omega) (by omega) h.1
  have e2 := u8_inj (by omega) (by omega) h.2
  have a1 := Nat.div_add_mod m c
  have a2 := Nat.div_add_mod m' c
  have e3 : m / c = m' / c := by omega
  have e4 : m % c = m' % c := by omega
  rw [← a1, ← a2, e3, e4]
theorem cellT_in {R C k : Nat} (hB : BoardOf R C) (hb : boardB (R : Int) (C : Int) = true) (hk : k < R * C) : cellT (R : Int) (C : Int) (k : Int) = nameL C k := by
  unfold cellT
  rw [if_pos ⟨hb, by omega, by rw [← Int.natCast_mul]; omega⟩, Int.toNat_natCast, Int.toNat_natCast]
theorem cellT_out {r c k : Int} (h : ¬ (boardB r c = true ∧ 0 ≤ k ∧ k < r * c)) : cellT r c k = [] := by unfold cellT; rw [if_neg h]
theorem readI_some {r c : Int} {s : List UInt8} {k : Nat} : readI r c s = some k → boardB r c = true ∧ k < (r * c).toNat ∧ cellT r c (k : Int) = s := by
  intro h
  unfold readI at h
  split at h
  · rename_i hb
    have h1 := List.find?_some h
    have h2 := List.mem_of_find?_eq_some h
    exact ⟨hb, List.mem_range.1 h2, of_decide_eq_true h1⟩
  · cases h
theorem readI_name {R C k : Nat} (hB : BoardOf R C) (hb : boardB (R : Int) (C : Int) = true) (hk : k < R * C) : readI (R : Int) (C : Int) (nameL C k) = some k := by
  have hn : ((R : Int) * (C : Int)).toNat = R * C := by rw [← Int.natCast_mul]; exact Int.toNat_natCast _
  have h9 := hB.2.2.2.2
  cases hr : readI (R : Int) (C : Int) (nameL C k) with
  | none =>
    unfold readI at hr
    rw [if_pos hb, List.find?_eq_none, hn] at hr
    have := hr k (List.mem_range.2 hk)
    rw [cellT_in hB hb hk] at this
    simp at this
  | some j =>
    obtain ⟨_, h2, h3⟩ := readI_some hr
    rw [hn] at h2
    rw [cellT_in hB hb h2] at h3
    rw [name_inj hB.2.2.1 (by omega) (by omega) hB.2.2.2.1 h3]
/-! ### texts of records -/
def headL (r c : Nat) : List UInt8 := [UInt8.ofNat (48 + r), 120, UInt8.ofNat (48 + c), 58]
def recTx (r c : Int) (ms : List Int) : List UInt8 := headL r.toNat c.toNat ++ ms.flatMap fun m => 32 :: nameL c.toNat m.toNat
def recT (r c : Int) (ms : List Int) : List UInt8 := if recB r c ms = true then recTx r c ms else []

theorem flat_inj {c : Nat} (hc : 1 ≤ c) (hc4 : c ≤ 4) : ∀ {ms ms' : List Int}, (∀ m ∈ ms, ∃ k : Nat, m = (k : Int) ∧ k < 9) → (∀ m ∈ ms', ∃ k : Nat, m = (k : Int) ∧ k < 9) →
    (ms.flatMap fun m => 32 :: nameL c m.toNat) = (ms'.flatMap fun m => 32 :: nameL c m.toNat) → ms = ms'
  | [], [], _, _, _ => rfl
  | [], m :: ms, _, _, h => by simp [nameL] at h
  | m :: ms, [], _, _, h => by simp [nameL] at h
  | m :: ms, m' :: ms', h1, h2, h => by
    obtain ⟨k, rfl, hk⟩ := h1 m (List.mem_cons_self ..)
    obtain ⟨k', rfl, hk'⟩ := h2 m' (List.mem_cons_self ..)
    simp only [List.flatMap_cons, nameL, List.cons_append, List.nil_append, List.cons.injEq, true_and, Int.toNat_natCast] at h
    have e : k = k' := name_inj hc hk hk' hc4 (by unfold nameL; rw [h.1, h.2.1])
    rw [e, flat_inj hc hc4 (fun m hm => h1 m (List.mem_cons_of_mem _ hm)) (fun m hm => h2 m (List.mem_cons_of_mem _ hm)) h.2.2]

theorem rec_small {r c : Int} {ms : List Int} (h : recB r c ms = true) : ∀ m ∈ ms, ∃ k : Nat, m = (k : Int) ∧ k < 9 := by
  intro m hm
  obtain ⟨k, e, hk⟩ := rec_cells h m hm
  unfold recB at h
  rw [Bool.and_eq_true] at h
  obtain ⟨R, C, rfl, rfl, hB⟩ := boardB_nat h.1
  have h9 := hB.2.2.2.2
  rw [← Int.natCast_mul] at hk
  exact ⟨k, e, by omega⟩
theorem rec_board {r c : Int} {ms : List Int} (h : recB r c ms = true) : boardB r c = true := by
  unfold recB at h
  rw [Bool.and_eq_true] at h
  exact h.1
/-- No text says two records. -/
theorem recTx_inj {r c r' c' : Int} {ms ms' : List Int} (h : recB r c ms = true) (h' : recB r' c' ms' = true) (he : recTx r c ms = recTx r' c' ms') : r = r' ∧ c = c' ∧ ms = ms' := by
  have s1 := rec_small h
  have s2 := rec_small h'
  obtain ⟨R, C, rfl, rfl, b1, b2, b3, b4, _⟩ := boardB_nat (rec_board h)
  obtain ⟨R', C', rfl, rfl, b1', b2', b3', b4', _⟩ := boardB_nat (rec_board h')
  simp only [recTx, headL, List.cons_append, List.nil_append, List.cons.injEq, true_and, Int.toNat_natCast] at he
  have e1 : R = R' := by have := u8_inj (by omega) (by omega) he.1; omega
  have e2 : C = C' := by have := u8_inj (by omega) (by omega) he.2.1; omega
  subst e1 e2
  exact ⟨rfl, rfl, flat_inj b3 b4 s1 s2 he.2.2⟩
theorem recTx_some (r c : Int) (ms : List Int) : recTx r c ms ≠ [] := by simp [recTx, headL]
theorem recT_nil {r c : Int} {ms : List Int} : recT r c ms = [] ↔ recB r c ms = false := by
  unfold recT
  cases h : recB r c ms with
  | true => simp [recTx_some]
  | false => simp

/-- The record that a text says. -/
noncomputable def readR (s : List UInt8) : Option (Int × Int × List Int) :=
  open Classical in if h : ∃ q : Int × Int × List Int, recB q.1 q.2.1 q.2.2 = true ∧ recTx q.1 q.2.1 q.2.2 = s then some (Classical.choose h) else none
theorem readR_some {s : List UInt8} {q : Int × Int × List Int} : readR s = some q ↔ recB q.1 q.2.1 q.2.2 = true ∧ recTx q.1 q.2.1 q.2.2 = s := by
  unfold readR
  constructor
  · intro h
    split at h
    · rename_i he
      rw [← Option.some.inj h]
      exact Classical.choose_spec he
    · cases h
  · intro h
    have he : ∃ q : Int × Int × List Int, recB q.1 q.2.1 q.2.2 = true ∧ recTx q.1 q.2.1 q.2.2 = s := ⟨q, h⟩
    rw [dif_pos he]
    have hc := Classical.choose_spec he
    obtain ⟨e1, e2, e3⟩ := recTx_inj hc.1 h.1 (hc.2.trans h.2.symm)
    congr 1
    exact Prod.ext e1 (Prod.ext e2 e3)
theorem recTx_length (r c : Int) (ms : List Int) : (recTx r c ms).length = 4 + 3 * ms.length := by
  unfold recTx
  rw [List.length_append]
  have : ∀ l : List Int, (l.flatMap fun m => 32 :: nameL c.toNat m.toNat).length = 3 * l.length := by
    intro l
    induction l with
    | nil => rfl
    | cons m l ih => simp [nameL] at ih ⊢; omega
  rw [this]; rfl
/-! ### cut at a byte -/
def cutL (sep : UInt8) : List UInt8 → List (List UInt8)
  | [] => [[]]
  | x :: xs => if x = sep then [] :: cutL sep xs else (match cutL sep xs with | w :: ws => (x :: w) :: ws | [] => [[x]])
theorem cut_cons (sep x : UInt8) (xs : List UInt8) : cutL sep (x :: xs) = if x = sep then [] :: cutL sep xs else (match cutL sep xs with | w :: ws => (x :: w) :: ws | [] => [[x]]) := rfl
theorem cut_some (sep : UInt8) : ∀ s, cutL sep s ≠ []
  | [] => by simp [cutL]
  | x :: xs => by
    unfold cutL
    split
    · simp
    · split <;> simp
theorem cut_none {sep : UInt8} : ∀ {w : List UInt8}, (∀ x ∈ w, x ≠ sep) → cutL sep w = [w]
  | [], _ => rfl
  | x :: xs, h => by
    unfold cutL
    rw [if_neg (h x (List.mem_cons_self ..)), cut_none fun y hy => h y (List.mem_cons_of_mem _ hy)]
theorem cut_one {sep : UInt8} : ∀ {w : List UInt8} (rest : List UInt8), (∀ x ∈ w, x ≠ sep) → cutL sep (w ++ sep :: rest) = w :: cutL sep rest
  | [], rest, _ => by simp [cutL]
  | x :: xs, rest, h => by
    rw [List.cons_append, cut_cons, if_neg (h x (List.mem_cons_self ..)), cut_one rest fun y hy => h y (List.mem_cons_of_mem _ hy)]
theorem u8_ne {a b : Nat} (ha : a < 256) (hb : b < 256) (h : a ≠ b) : UInt8.ofNat a ≠ UInt8.ofNat b := fun e => h (u8_inj ha hb e)
theorem name_no {c m : Nat} (hc : 1 ≤ c) (hc4 : c ≤ 4) (hm : m < 9) : ∀ x ∈ nameL c m, x ≠ 32 ∧ x ≠ 120 := by
  intro x hx
  have l1 := Nat.mod_lt m (show c > 0 by omega)
  have d1 := Nat.div_le_self m c
  unfold nameL at hx
  generalize m % c = p at l1 hx
  generalize m / c = q at d1 hx
  rcases List.mem_cons.1 hx with rfl | hx
  · exact ⟨u8_ne (b := 32) (by omega) (by omega) (by omega), u8_ne (b := 120) (by omega) (by omega) (by omega)⟩
  · obtain rfl := List.mem_singleton.1 hx
    exact ⟨u8_ne (b := 32) (by omega) (by omega) (by omega), u8_ne (b := 120) (by omega) (by omega) (by omega)⟩
theorem cut_names {c : Nat} (hc : 1 ≤ c) (hc4 : c ≤ 4) : ∀ (ms : List Int) (w : List UInt8), (∀ x ∈ w, x ≠ 32) → (∀ m ∈ ms, ∃ k : Nat, m = (k : Int) ∧ k < 9) →
    cutL 32 (w ++ ms.flatMap fun m => 32 :: nameL c m.toNat) = w :: ms.map fun m => nameL c m.toNat
  | [], w, hw, _ => by rw [List.flatMap_nil, List.append_nil, cut_none hw]; rfl
  | m :: ms, w, hw, h => by
    obtain ⟨k, rfl, hk⟩ := h m (List.mem_cons_self ..)
    rw [List.flatMap_cons, List.map_cons, List.cons_append, cut_one _ hw, Int.toNat_natCast]
    rw [cut_names hc hc4 ms _ (fun x hx => (name_no hc hc4 hk x hx).1) (fun m hm => h m (List.mem_cons_of_mem _ hm))]
theorem cut_rec {r c : Int} {ms : List Int} (h : recB r c ms = true) : cutL 32 (recTx r c ms) = headL r.toNat c.toNat :: ms.map (fun m => nameL c.toNat m.toNat) ∧
    cutL 120 (headL r.toNat c.toNat) = [[UInt8.ofNat (48 + r.toNat)], [UInt8.ofNat (48 + c.toNat), 58]] := by
  have s1 := rec_small h
  obtain ⟨R, C, rfl, rfl, b1, b2, b3, b4, _⟩ := boardB_nat (rec_board h)
  simp only [Int.toNat_natCast]
  have hR : ∀ b : Nat, b < 256 → b ≠ 48 + R → UInt8.ofNat (48 + R) ≠ UInt8.ofNat b := fun b hb hne => u8_ne (by omega) hb (Ne.symm hne)
  have hC : ∀ b : Nat, b < 256 → b ≠ 48 + C → UInt8.ofNat (48 + C) ≠ UInt8.ofNat b := fun b hb hne => u8_ne (by omega) hb (Ne.symm hne)
  refine ⟨?_, ?_⟩
  · refine cut_names b3 b4 ms _ ?_ s1
    intro x hx
    simp only [headL, List.mem_cons, List.not_mem_nil, or_false] at hx
    rcases hx with rfl | rfl | rfl | rfl
    · exact hR 32 (by omega) (by omega)
    · decide
    · exact hC 32 (by omega) (by omega)
    · decide
  · have : headL R C = [UInt8.ofNat (48 + R)] ++ 120 :: [UInt8.ofNat (48 + C), 58] := rfl
    rw [this, cut_one _ (fun x hx => by obtain rfl := List.mem_singleton.1 hx; exact hR 120 (by omega) (by omega)), cut_none]
    intro x hx
    simp only [List.mem_cons, List.not_mem_nil, or_false] at hx
    rcases hx with rfl | rfl
    · exact hC 120 (by omega) (by omega)
    · decide

/-! ### numbers -/
def digF : Int → List UInt8 → Int
  | n, [] => n
  | n, x :: xs => if x < 48 ∨ 57 < x then -1 else digF (10 * n + ((x.toNat : Int) - 48)) xs
def digL (s : List UInt8) : Int := if (1 ≤ s.length ∧ s.length ≤ 6) ∧ ¬ (1 < s.length ∧ s.head? = some 48) then digF 0 s else -1
theorem digL_one {n : Nat} (hn : n ≤ 9) : digL [UInt8.ofNat (48 + n)] = (n : Int) := by
  have : n = 0 ∨ n = 1 ∨ n = 2 ∨ n = 3 ∨ n = 4 ∨ n = 5 ∨ n = 6 ∨ n = 7 ∨ n = 8 ∨ n = 9 := by omega
  rcases this with rfl | rfl | rfl | rfl | rfl | rfl | rfl | rfl | rfl | rfl <;> decide

end Go.Proofs.YtpaehbfknlpkbadDoor

/- The model's chapter 11: names of cells, records, what is at their end, their texts. -/
set_option maxRecDepth 20000
namespace Go.Proofs.YtpaehbfknlpkbadDoor
open Go Go.Ip G

theorem conv_i8 {x : Nat} (hx : x < 256) : convP Tryd.prog 3 5 (.int .i64 (x : Int)) = some (.int .u8 (x : Int)) := by
  have h1 : convP Tryd.prog 3 5 (.int .i64 (x : Int)) = some (.int .u8 (IntKind.u8.wrap (x : Int))) := by kernel_rfl
  have h2 : IntKind.u8.wrap (x : Int) = (x : Int) := by
    show (x : Int) % 256 = (x : Int)
    omega
  rw [h1, h2]
theorem max_nat (x : Nat) : foldP maxP2 (.int .i64 (x : Int)) [.int .i64 0] = some (.int .i64 (x : Int)) := by
  simp only [foldP, maxP2]
  rw [if_neg (by omega)]; rfl

variable (g : Nat → PV) (lf n : Nat)

theorem specNumber_W {x : Nat} (hx : x ≤ 9) (N : Nat) (hN : 1 ≤ N) (h : PHeap) :
    W (CL g lf N fn_spec_l1Number [.int .i64 (x : Int)] h) fun v h' => v = .str (sB [UInt8.ofNat (48 + x)]) ∧ Keep h.length h h' := by
  obtain ⟨n, rfl⟩ : ∃ n, N = n + 1 := ⟨N - 1, by omega⟩
  rw [spec_l1Number.call_eq]
  unfold spec_l1Number.main
  simp only [env_C, env_buildSlice, env_bin, env_conv, env_max, env_bstr]
  refine wlssT (by omega) ?_
  refine wT ?_
  refine wbd (max_nat x) ?_
  refine wbd (v := .int .i64 ((48 + x : Nat) : Int)) (by rw [bin_add, wr (by omega)]; congr 2) ?_
  refine wbd (conv_i8 (show 48 + x < 256 by omega)) ?_
  refine wbyte (F := fun s h' => (resV s).bind fun v => some (v, h')) fun h1 k1 => ?_
  rw [Int.toNat_natCast]
  refine wrT ?_
  exact W.ret ⟨rfl, k1⟩

theorem abcd_at {i : Nat} (hi : i < 4) : (([97, 98, 99, 100] : List UInt8).drop i).take (i + 1 - i) = [UInt8.ofNat (97 + i)] := by
  have : i = 0 ∨ i = 1 ∨ i = 2 ∨ i = 3 := by omega
  rcases this with rfl | rfl | rfl | rfl <;> decide

theorem specCellText_W (N : Nat) (hN : 5 ≤ N) (r c k : Int) (h : PHeap) :
    W (CL g lf N fn_spec_CellText [.int .i64 r, .int .i64 c, .int .i64 k] h) fun v h' => v = .str (sB (cellT r c k)) ∧ Keep h.length h h' := by
  obtain ⟨n, rfl⟩ : ∃ n, N = n + 1 := ⟨N - 1, by omega⟩
  have e1 := specBoardOk_N g lf n (by omega) h r c
  rw [spec_CellText.call_eq]
  unfold spec_CellText.main
  simp only [env_C, env_pick, env_bin, env_un, env_slice]
  cases hb : boardB r c with
  | false =>
    rw [hb] at e1
    repeat (first | with_reducible refine wT ?_ | with_reducible refine wg0 rfl ?_ | with_reducible refine wpT ?_ | with_reducible refine wnF ?_ | with_reducible refine wsm ?_ | with_reducible refine wbd (by assumption) ?_ | (with_reducible refine wrT ?_) | dsimp only)
    exact W.ret ⟨by rw [cellT_out (by rw [hb]; simp)], Keep.refl _ _⟩
  | true =>
    rw [hb] at e1
    obtain ⟨R, C, rfl, rfl, hB⟩ := boardB_nat hb
    obtain ⟨b1, b2, b3, b4, b9⟩ := id hB
    have hRC : 1 ≤ R * C := Nat.mul_pos (by omega) (by omega)
    have e2 := l1In_N g lf n (by omega) h k 0 ((R * C - 1 : Nat) : Int)
    by_cases hk : (0 : Int) ≤ k ∧ k ≤ ((R * C - 1 : Nat) : Int)
    · rw [decide_eq_true hk] at e2
      obtain ⟨K, rfl⟩ := Int.eq_ofNat_of_zero_le hk.1
      have hK : K < R * C := by omega
      have hmod := Nat.mod_lt K (show C > 0 by omega)
      have hdiv := Nat.div_le_self K C
      repeat (first | with_reducible refine wF ?_ | with_reducible refine wg1 rfl ?_ | with_reducible refine wpF ?_ | with_reducible refine wnT ?_ | with_reducible refine wpv ?_ | with_reducible refine wsm ?_ | with_reducible refine wbd (by assumption) ?_ | with_reducible refine wadd1 (by omega) ?_ | with_reducible refine wsub1 (by omega) (by omega) ?_ | with_reducible refine wmulN (by omega) ?_ | with_reducible refine wremN (by omega) ?_ | dsimp only)
      refine wssl (i := K % C) (j := K % C + 1) (by omega) (by show _ ≤ 4; omega) ?_
      rw [abcd_at (by omega)]
      repeat (first | with_reducible refine wadd1 (by omega) ?_ | with_reducible refine wquoN (by omega) (by omega) ?_)
      refine wcall (specNumber_W g lf (x := K / C + 1) (by omega) n (by omega) h) fun v h1 ⟨hv, k1⟩ => ?_
      subst hv
      refine wsadd (by simp) ?_
      refine wrT ?_
      refine W.ret ⟨?_, k1⟩
      rw [cellT_in hB hb hK]
      rw [show 48 + (K / C + 1) = 49 + K / C by omega]
      rfl
    · rw [decide_eq_false hk] at e2
      repeat (first | with_reducible refine wT ?_ | with_reducible refine wg1 rfl ?_ | with_reducible refine wpF ?_ | with_reducible refine wnT ?_ | with_reducible refine wnF ?_ | with_reducible refine wpv ?_ | with_reducible refine wsm ?_ | with_reducible refine wbd (by assumption) ?_ | (with_reducible refine wrT ?_) | with_reducible refine wsub1 (by omega) (by omega) ?_ | with_reducible refine wmulN (by omega) ?_ | dsimp only)
      refine W.ret ⟨?_, Keep.refl _ _⟩
      rw [cellT_out]
      rintro ⟨_, h1, h2⟩
      rw [← Int.natCast_mul] at h2
      omega

/-- What the texts' reading hands back. -/
def readV (o : Option Nat) : PV := match o with | some k => .tup [.int .i64 (k : Int), .bool true] | none => .tup [.int .i64 (-1), .bool false]
theorem specReadCell_W (hlf : 1000 < lf) (N : Nat) (hN : 6 ≤ N) (r c : Int) (s : List UInt8) (h : PHeap) :
    W (CL g lf N fn_spec_ReadCell [.int .i64 r, .int .i64 c, .str (sB s)] h) fun v h' => v = readV (readI r c s) ∧ Keep h.length h h' := by
  obtain ⟨n, rfl⟩ : ∃ n, N = n + 1 := ⟨N - 1, by omega⟩
  rw [spec_ReadCell.call_eq]
  unfold spec_ReadCell.main
  simp only [env_lf]
  cases hb : boardB r c with
  | false =>
    have hn : readI r c s = none := by unfold readI; rw [hb]; rfl
    rw [hn]
    obtain ⟨f', rfl⟩ : ∃ f', lf = f' + 1 := ⟨lf - 1, by omega⟩
    rw [loopK_succ]
    have e1 := specBoardOk_N g (f' + 1) n (by omega) h r c
    rw [hb] at e1
    rw [spec_ReadCell.body0_eq]
    unfold spec_ReadCell.body0
    simp only [env_C, env_pick, env_bin]
    have em : binP Tryd.prog .mul 3 (.int .i64 r) (.int .i64 c) = some (.int .i64 (IntKind.i64.wrap (r * c))) := bin_mul ..
    refine wbd em ?_
    refine wlss (fun e => ?_) (fun e => ?_)
    · repeat (first | with_reducible refine wF ?_ | with_reducible refine wg1 rfl ?_ | with_reducible refine wpT ?_ | with_reducible refine wsm ?_ | with_reducible refine wrI ?_ | with_reducible refine wrB ?_ | with_reducible refine wbd (by assumption) ?_ | rw [kLoop_exit] | rw [spec_ReadCell.after0_se0_0_1_2_8_18] | dsimp only)
      exact W.ret ⟨rfl, Keep.refl _ _⟩
    · repeat (first | with_reducible refine wF ?_ | with_reducible refine wg0 rfl ?_ | with_reducible refine wpF ?_ | with_reducible refine wsm ?_ | with_reducible refine wrI ?_ | with_reducible refine wrB ?_ | rw [kLoop_exit] | rw [spec_ReadCell.after0_se0_0_1_2_8_18] | dsimp only)
      exact W.ret ⟨rfl, Keep.refl _ _⟩
  | true =>
    obtain ⟨R, C, rfl, rfl, hB⟩ := boardB_nat hb
    obtain ⟨b1, b2, b3, b4, b9⟩ := id hB
    have hRC : R * C < 4611686018427387904 := by omega
    have hn : ((R : Int) * (C : Int)).toNat = R * C := by rw [← Int.natCast_mul]; exact Int.toNat_natCast _
    refine loopW (fun m st => ∃ (k : Nat) (h1 : PHeap), st = spec_ReadCell.st0 (.int .i64 (R : Int)) (.int .i64 (C : Int)) (.str (sB s)) (.int .i64 (k : Int)) h1 ∧ k + m = R * C ∧ (∀ j, j < k → cellT (R : Int) (C : Int) (j : Int) ≠ s) ∧ Keep h.length h h1) ?_ lf (R * C) _ (by omega) ⟨0, h, rfl, by omega, fun j hj => by omega, Keep.refl _ _⟩
    rintro n1 m1 st ⟨k, h1, rfl, hkm, hno, k1⟩ next
    have e1 := specBoardOk_N g lf n (by omega) h1 (R : Int) (C : Int)
    rw [hb] at e1
    rw [spec_ReadCell.body0_eq]
    unfold spec_ReadCell.body0
    simp only [env_C, env_pick, env_bin]
    cases m1 with
    | zero =>
      repeat (first | with_reducible refine wF ?_ | with_reducible refine wg0 rfl ?_ | with_reducible refine wpF ?_ | with_reducible refine wsm ?_ | with_reducible refine wrI ?_ | with_reducible refine wrB ?_ | with_reducible refine wmulN (by omega) ?_ | with_reducible refine wlssF (by omega) ?_ | rw [kLoop_exit] | rw [spec_ReadCell.after0_se0_0_1_2_8_18] | dsimp only)
      refine W.ret ⟨?_, k1⟩
      have : readI (R : Int) (C : Int) s = none := by
        unfold readI
        rw [if_pos hb, List.find?_eq_none, hn]
        intro j hj
        have := hno j (by have := List.mem_range.1 hj; omega)
        simpa using this
      rw [this]; rfl
    | succ m1 =>
      repeat (first | with_reducible refine wT ?_ | with_reducible refine wg1 rfl ?_ | with_reducible refine wpT ?_ | with_reducible refine wsm ?_ | with_reducible refine wbd (by assumption) ?_ | with_reducible refine wmulN (by omega) ?_ | with_reducible refine wlssT (by omega) ?_ | dsimp only)
      refine wcall (specCellText_W g lf n (by omega) (R : Int) (C : Int) (k : Int) h1) fun v h2 ⟨hv, k2⟩ => ?_
      subst hv
      by_cases he : cellT (R : Int) (C : Int) (k : Int) = s
      · refine wseqT he ?_
        repeat (first | with_reducible refine wT ?_ | with_reducible refine wrI ?_ | with_reducible refine wrB ?_ | rw [kLoop_ret] | rw [spec_ReadCell.K0_ret] | rw [spec_ReadCell.top_sr_6_7] | dsimp only)
        refine W.ret ⟨?_, k1.trans (k2.mono k1.1)⟩
        have hk : k < R * C := by omega
        rw [cellT_in hB hb hk] at he
        rw [← he, readI_name hB hb hk]; rfl
      · refine wseqF he ?_
        repeat (first | with_reducible refine wF ?_ | with_reducible refine wadd1 (by omega) ?_ | dsimp only)
        refine next _ _ (Nat.lt_succ_self _) ⟨k + 1, h2, rfl, by omega, fun j hj => ?_, k1.trans (k2.mono k1.1)⟩
        rcases Nat.lt_or_ge j k with hlt | hge
        · exact hno j hlt
        · obtain rfl : j = k := by omega
          exact he

end Go.Proofs.YtpaehbfknlpkbadDoor

/- The model's chapter 11, on: records, what is at their end, their texts. -/
set_option maxRecDepth 20000
namespace Go.Proofs.YtpaehbfknlpkbadDoor
open Go Go.Ip G

theorem start_nat (R C : Nat) : startL (R : Int) (C : Int) = List.replicate (R * C) 0 := by
  unfold startL; rw [← Int.natCast_mul, Int.toNat_natCast]

variable (g : Nat → PV) (lf n : Nat)

theorem specPlay_W (hlf : 1000 < lf) {R C : Nat} (hB : BoardOf R C) (hb : boardB (R : Int) (C : Int) = true) {ms : List Int} {p : PV} {h : PHeap} (hp : IntSl .i64 h p ms) (N : Nat) (hN : 8 ≤ N) :
    W (CL g lf N fn_spec_l11Play [.int .i64 (R : Int), .int .i64 (C : Int), p] h) fun v h' => ∃ q, v = .tup [q, .bool (playTo (R : Int) (C : Int) (startL (R : Int) (C : Int)) 1 ms).isSome] ∧ OwnSl h.length h' q ((playTo (R : Int) (C : Int) (startL (R : Int) (C : Int)) 1 ms).getD []) ∧ Keep h.length h h' := by
  obtain ⟨n, rfl⟩ : ∃ n, N = n + 1 := ⟨N - 1, by omega⟩
  obtain ⟨b1, b2, b3, b4, b9⟩ := id hB
  rw [spec_l11Play.call_eq]
  unfold spec_l11Play.main
  simp only [env_lf, env_bin, env_make]
  repeat (first | (refine wmake (by omega) fun q h1 o1 k1 => ?_) | with_reducible refine wmulN (by omega) ?_ | dsimp only)
  rw [← start_nat] at o1
  refine loopW (fun m st => ∃ (k T : Nat) (ys : List Int) (q' : PV) (h2 : PHeap), st = spec_l11Play.st0 (.int .i64 (R : Int)) (.int .i64 (C : Int)) p q' (.int .i64 (T : Int)) (.int .i64 (k : Int)) h2 ∧ k + m = 10 ∧ k ≤ ms.length ∧ (T = 1 ∨ T = 2) ∧ ((T : Int) = turnAt 1 k) ∧ playTo (R : Int) (C : Int) (startL (R : Int) (C : Int)) 1 (ms.take k) = some ys ∧ OwnSl h.length h2 q' ys ∧ Keep h.length h h2) ?_ lf 10 _ (by omega) ⟨0, 1, _, q, h1, rfl, by omega, by omega, .inl rfl, rfl, rfl, o1, k1⟩
  rintro n1 m1 st ⟨k, T, ys, q', h2, rfl, hkm, hkl, hT, ht, hpl, o2, k2⟩ next
  have hrec : recB (R : Int) (C : Int) (ms.take k) = true := by unfold recB; rw [hb, hpl]; rfl
  have h9 := (rec_length hrec).2
  rw [List.length_take, Nat.min_eq_left hkl] at h9
  have hyl : ys.length = R * C := by rw [playTo_length _ _ _ _ _ _ hpl, start_nat, List.length_replicate]
  have hp2 := hp.keep k2
  have heq : playTo (R : Int) (C : Int) (startL (R : Int) (C : Int)) 1 ms = playTo (R : Int) (C : Int) ys (T : Int) (ms.drop k) := by
    have := playTo_append (R : Int) (C : Int) (ms.take k) (ms.drop k) (startL (R : Int) (C : Int)) 1
    rw [List.take_append_drop, hpl, List.length_take, Nat.min_eq_left hkl] at this
    rw [ht]; exact this
  rw [spec_l11Play.body0_eq]
  unfold spec_l11Play.body0
  simp only [env_C, env_buildSlice, env_load, env_bin, env_un, env_indexAddr, env_extract, env_len]
  rcases Nat.lt_or_ge k ms.length with hk | hk
  · obtain ⟨m1, rfl⟩ : ∃ m, m1 = m + 1 := ⟨m1 - 1, by omega⟩
    have hd : ms.drop k = ms[k] :: ms.drop (k + 1) := List.drop_eq_getElem_cons hk
    obtain ⟨q3, h3, e3, o3, k3⟩ := specPlayed_calls g lf n (by omega) (R : Int) (C : Int) ms[k] (T : Int) o2.int (by omega) (by omega) hlf
    rw [hd] at heq; simp only [playTo] at heq
    cases hmv : moveL (R : Int) (C : Int) ys ms[k] (T : Int) with
    | false =>
      rw [hmv] at e3
      rw [hmv, if_neg (by decide)] at heq
      rw [heq]
      repeat (first | with_reducible refine wT ?_ | with_reducible refine wnF ?_ | with_reducible refine wrB ?_ | with_reducible refine wx0 ?_ | with_reducible refine wx1 ?_ | with_reducible refine wbd (by assumption) ?_ | with_reducible refine wlen (by assumption) ?_ | (refine wat hp2 hk fun a ea => ?_) | (refine wempty fun q4 h4 o4 k4 => ?_) | with_reducible refine wlssT (by omega) ?_ | with_reducible refine wresO (by assumption) ?_ | rw [kLoop_ret] | rw [spec_l11Play.K0_ret] | rw [spec_l11Play.top_sr_6_7] | dsimp only)
      exact W.ret ⟨_, rfl, o4.mono (Nat.le_trans k2.1 k3.1), k2.trans ((k3.mono k2.1).trans (k4.mono (Nat.le_trans k2.1 k3.1)))⟩
    | true =>
      rw [hmv] at e3
      rw [hmv, if_pos rfl] at heq
      have ho := other_W g lf n (by omega) h3 hT
      unfold playedL at o3
      rw [hmv, if_pos rfl] at o3
      repeat (first | with_reducible refine wT ?_ | with_reducible refine wF ?_ | with_reducible refine wnT ?_ | with_reducible refine wx0 ?_ | with_reducible refine wx1 ?_ | with_reducible refine wbd (by assumption) ?_ | with_reducible refine wlen (by assumption) ?_ | (refine wat hp2 hk fun a ea => ?_) | with_reducible refine wadd1 (by omega) ?_ | with_reducible refine wlssT (by omega) ?_ | dsimp only)
      refine next _ _ (Nat.lt_succ_self _) ⟨k + 1, 3 - T, _, q3, h3, rfl, by omega, hk, by omega, ?_, ?_, o3.mono k2.1, k2.trans (k3.mono k2.1)⟩
      · rw [← turnAt_succ]
        have : ((3 - T : Nat) : Int) = 3 - turnAt 1 k := by rw [← ht]; omega
        rw [this]; unfold turnAt; split <;> rfl
      · rw [List.take_succ_eq_append_getElem hk, playTo_append, hpl, List.length_take, Nat.min_eq_left hkl]
        show playTo (R : Int) (C : Int) ys (turnAt 1 k) [ms[k]] = _
        rw [← ht]
        simp only [playTo]
        rw [hmv, if_pos rfl]
  · obtain rfl : k = ms.length := by omega
    rw [List.take_length] at hpl
    rw [hpl]
    repeat (first | with_reducible refine wF ?_ | with_reducible refine wrB ?_ | with_reducible refine wlen (by assumption) ?_ | with_reducible refine wlssF (by omega) ?_ | with_reducible refine wresO (by assumption) ?_ | rw [kLoop_exit] | rw [spec_l11Play.after0_se0_0_1_2_8_9_10_20])
    exact W.ret ⟨_, rfl, o2, k2⟩

theorem specRecordOk_W (hlf : 1000 < lf) (r c : Int) {ms : List Int} {p : PV} {h : PHeap} (hp : IntSl .i64 h p ms) (N : Nat) (hN : 9 ≤ N) :
    W (CL g lf N fn_spec_RecordOk [.int .i64 r, .int .i64 c, p] h) fun v h' => v = .bool (recB r c ms) ∧ Keep h.length h h' := by
  obtain ⟨n, rfl⟩ : ∃ n, N = n + 1 := ⟨N - 1, by omega⟩
  have e1 := specBoardOk_N g lf n (by omega) h r c
  rw [spec_RecordOk.call_eq]
  unfold spec_RecordOk.main
  simp only [env_C, env_un, env_extract]
  cases hb : boardB r c with
  | false =>
    rw [hb] at e1
    repeat (first | with_reducible refine wT ?_ | with_reducible refine wnF ?_ | with_reducible refine wrB ?_ | with_reducible refine wbd (by assumption) ?_ | dsimp only)
    exact W.ret ⟨by unfold recB; rw [hb]; rfl, Keep.refl _ _⟩
  | true =>
    rw [hb] at e1
    obtain ⟨R, C, rfl, rfl, hB⟩ := boardB_nat hb
    repeat (first | with_reducible refine wF ?_ | with_reducible refine wnT ?_ | with_reducible refine wbd (by assumption) ?_ | dsimp only)
    refine wcall (specPlay_W g lf hlf hB hb hp n (by omega)) fun v h1 ⟨q, hv, o1, k1⟩ => ?_
    subst hv
    repeat (first | with_reducible refine wrB ?_ | with_reducible refine wx0 ?_ | with_reducible refine wx1 ?_ | dsimp only)
    exact W.ret ⟨by unfold recB; rw [hb]; rfl, k1⟩

theorem specEndOf_W (hlf : 1000 < lf) (r c : Int) {ms : List Int} {p : PV} {h : PHeap} (hp : IntSl .i64 h p ms) (N : Nat) (hN : 10 ≤ N) :
    W (CL g lf N fn_spec_EndOf [.int .i64 r, .int .i64 c, p] h) fun v h' => ∃ q, v = .tup [q, .int .i64 (recTurn r c ms)] ∧ OwnSl h.length h' q (recEnd r c ms) ∧ Keep h.length h h' := by
  obtain ⟨n, rfl⟩ : ∃ n, N = n + 1 := ⟨N - 1, by omega⟩
  rw [spec_EndOf.call_eq]
  unfold spec_EndOf.main
  simp only [env_C, env_buildSlice, env_bin, env_un, env_extract, env_len]
  refine wcall (specRecordOk_W g lf hlf r c hp n (by omega)) fun v h1 ⟨hv, k1⟩ => ?_
  subst hv
  cases hr : recB r c ms with
  | false =>
    have ht : recTurn r c ms = 0 := by unfold recTurn; rw [hr]; rfl
    have he : recEnd r c ms = [] := by
      unfold recEnd; split
      · rename_i hb
        unfold recB at hr
        rw [hb, Bool.true_and] at hr
        cases hq : playTo r c (startL r c) 1 ms with
        | none => rfl
        | some y => rw [hq] at hr; cases hr
      · rfl
    rw [ht, he]
    repeat (first | with_reducible refine wT ?_ | with_reducible refine wnF ?_ | with_reducible refine wrI ?_ | (refine wempty fun q4 h4 o4 k4 => ?_) | with_reducible refine wresO (by assumption) ?_ | dsimp only)
    exact W.ret ⟨_, rfl, o4.mono k1.1, k1.trans (k4.mono k1.1)⟩
  | true =>
    have hb := rec_board hr
    have ht : recTurn r c ms = turnAt 1 ms.length := by unfold recTurn; rw [hr]; rfl
    obtain ⟨hpl, _⟩ := rec_end hr
    obtain ⟨R, C, rfl, rfl, hB⟩ := boardB_nat hb
    have hp1 := hp.keep k1
    repeat (first | with_reducible refine wF ?_ | with_reducible refine wnT ?_ | dsimp only)
    refine wcall (specPlay_W g lf hlf hB hb hp1 n (by omega)) fun v h2 ⟨q, hv, o2, k2⟩ => ?_
    rw [hpl] at hv o2
    subst hv
    have hp2 := hp1.keep k2
    rw [ht]; unfold turnAt
    rcases Nat.mod_two_eq_zero_or_one ms.length with hm | hm
    · rw [if_pos hm]
      repeat (first | with_reducible refine wT ?_ | with_reducible refine wrI ?_ | with_reducible refine wx0 ?_ | with_reducible refine wx1 ?_ | with_reducible refine wlen (by assumption) ?_ | with_reducible refine wrem2 ?_ | with_reducible refine weqlT (by omega) ?_ | with_reducible refine wresO (by assumption) ?_ | dsimp only)
      exact W.ret ⟨_, rfl, o2.mono k1.1, k1.trans (k2.mono k1.1)⟩
    · rw [if_neg (by omega)]
      repeat (first | with_reducible refine wF ?_ | with_reducible refine wrI ?_ | with_reducible refine wx0 ?_ | with_reducible refine wx1 ?_ | with_reducible refine wlen (by assumption) ?_ | with_reducible refine wrem2 ?_ | with_reducible refine weqlF (by omega) ?_ | with_reducible refine wresO (by assumption) ?_ | dsimp only)
      exact W.ret ⟨_, rfl, o2.mono k1.1, k1.trans (k2.mono k1.1)⟩

theorem recTx_more {r c : Int} {ms : List Int} {m : Int} : recTx r c (ms ++ [m]) = recTx r c ms ++ 32 :: nameL c.toNat m.toNat := by
  unfold recTx
  rw [List.flatMap_append, List.append_assoc]
  simp

theorem specRecordText_W (hlf : 1000 < lf) (r c : Int) {ms : List Int} {p : PV} {h : PHeap} (hp : IntSl .i64 h p ms) (N : Nat) (hN : 10 ≤ N) :
    W (CL g lf N fn_spec_RecordText [.int .i64 r, .int .i64 c, p] h) fun v h' => v = .str (sB (recT r c ms)) ∧ Keep h.length h h' := by
  obtain ⟨n, rfl⟩ : ∃ n, N = n + 1 := ⟨N - 1, by omega⟩
  rw [spec_RecordText.call_eq]
  unfold spec_RecordText.main
  simp only [env_C, env_lf, env_bin, env_un]
  refine wcall (specRecordOk_W g lf hlf r c hp n (by omega)) fun v h1 ⟨hv, k1⟩ => ?_
  subst hv
  cases hr : recB r c ms with
  | false =>
    have ht : recT r c ms = [] := by unfold recT; rw [hr]; rfl
    rw [ht]
    repeat (first | with_reducible refine wT ?_ | with_reducible refine wnF ?_ | (with_reducible refine wrT ?_) | dsimp only)
    exact W.ret ⟨rfl, k1⟩
  | true =>
    have ht : recT r c ms = recTx r c ms := by unfold recT; rw [hr]; rfl
    rw [ht]
    have hb := rec_board hr
    have hcs := rec_cells hr
    have h9 := (rec_length hr).2
    obtain ⟨R, C, rfl, rfl, hB⟩ := boardB_nat hb
    obtain ⟨b1, b2, b3, b4, b9⟩ := id hB
    repeat (first | with_reducible refine wF ?_ | with_reducible refine wnT ?_ | dsimp only)
    refine wcall (specNumber_W g lf (x := R) (by omega) n (by omega) h1) fun v h2 ⟨hv, k2⟩ => ?_
    subst hv
    refine wsadd (by simp) ?_
    refine wcall (specNumber_W g lf (x := C) (by omega) n (by omega) h2) fun v h3 ⟨hv, k3⟩ => ?_
    subst hv
    refine wsadd (by simp) ?_
    refine wsadd (by simp) ?_
    have hk3 : Keep h.length h h3 := k1.trans ((k2.mono k1.1).trans (k3.mono (Nat.le_trans k1.1 k2.1)))
    refine loopW (fun m st => ∃ (k : Nat) (h4 : PHeap), st = spec_RecordText.st0 (.int .i64 (R : Int)) (.int .i64 (C : Int)) p (.str (sB (recTx (R : Int) (C : Int) (ms.take k)))) (.int .i64 (k : Int)) h4 ∧ k + m = ms.length ∧ Keep h.length h h4) ?_ lf ms.length _ (by omega) ⟨0, h3, rfl, by omega, hk3⟩
    rintro n1 m1 st ⟨k, h4, rfl, hkm, k4⟩ next
    have hp4 := hp.keep k4
    rw [spec_RecordText.body0_eq]
    unfold spec_RecordText.body0
    simp only [env_C, env_load, env_bin, env_indexAddr, env_len]
    cases m1 with
    | zero =>
      obtain rfl : k = ms.length := by omega
      rw [List.take_length]
      repeat (first | with_reducible refine wF ?_ | with_reducible refine wlen (by assumption) ?_ | (with_reducible refine wrT ?_) | with_reducible refine wlssF (by omega) ?_ | rw [kLoop_exit] | rw [spec_RecordText.after0_se0_0_1_2_7_8_24])
      exact W.ret ⟨rfl, k4⟩
    | succ m1 =>
      have hk : k < ms.length := by omega
      obtain ⟨j, hj, hjl⟩ := hcs ms[k] (List.getElem_mem hk)
      rw [← Int.natCast_mul] at hjl
      have hl := recTx_length (R : Int) (C : Int) (ms.take k)
      rw [List.length_take, Nat.min_eq_left (by omega)] at hl
      repeat (first | with_reducible refine wT ?_ | with_reducible refine wlen (by assumption) ?_ | with_reducible refine wlssT (by omega) ?_)
      refine wsadd (by simp; omega) ?_
      repeat (first | with_reducible refine wbd (by assumption) ?_ | (refine wat hp4 hk fun a ea => ?_))
      refine wcall (specCellText_W g lf n (by omega) (R : Int) (C : Int) ms[k] h4) fun v h5 ⟨hv, k5⟩ => ?_
      subst hv
      rw [hj, cellT_in hB hb (by omega)]
      refine wsadd (by simp [nameL]; omega) ?_
      repeat (first | with_reducible refine wadd1 (by omega) ?_ | dsimp only)
      refine next _ _ (Nat.lt_succ_self _) ⟨k + 1, h5, ?_, by omega, k4.trans (k5.mono k4.1)⟩
      rw [List.take_succ_eq_append_getElem hk, recTx_more, hj, List.append_assoc]
      rfl

end Go.Proofs.YtpaehbfknlpkbadDoor

/- A text cut step by step; a record read word by word is the record that the text says. -/
set_option maxRecDepth 20000
namespace Go.Proofs.YtpaehbfknlpkbadDoor
open Go Go.Ip

/-! ### cut step by step: the word under way, and what is behind it -/
def cutA (sep : UInt8) (cur rest : List UInt8) : List (List UInt8) := match cutL sep rest with | w :: ws => (cur ++ w) :: ws | [] => [cur]
theorem cutA_nil (sep : UInt8) (s : List UInt8) : cutA sep [] s = cutL sep s := by
  unfold cutA
  cases h : cutL sep s with
  | nil => exact absurd h (cut_some sep s)
  | cons w ws => rfl
theorem cutA_end (sep : UInt8) (cur : List UInt8) : cutA sep cur [] = [cur] := by simp [cutA, cutL]
theorem cutA_sep {sep x : UInt8} {cur rest : List UInt8} (h : x = sep) : cutA sep cur (x :: rest) = cur :: cutA sep [] rest := by
  rw [cutA_nil]
  unfold cutA
  rw [cut_cons, if_pos h]
  simp
theorem cutA_more {sep x : UInt8} {cur rest : List UInt8} (h : ¬ x = sep) : cutA sep cur (x :: rest) = cutA sep (cur ++ [x]) rest := by
  unfold cutA
  rw [cut_cons, if_neg h]
  cases hc : cutL sep rest with
  | nil => exact absurd hc (cut_some sep rest)
  | cons w ws => simp
theorem cut_length (sep : UInt8) : ∀ s : List UInt8, (cutL sep s).length ≤ s.length + 1
  | [] => by simp [cutL]
  | x :: xs => by
    have := cut_length sep xs
    rw [cut_cons]
    split
    · simpa using this
    · cases hc : cutL sep xs with
      | nil => simp
      | cons w ws => rw [hc] at this; simp at this ⊢; omega
theorem cut_first {sep : UInt8} : ∀ {s w : List UInt8} {ws : List (List UInt8)}, cutL sep s = w :: ws → w.length ≤ s.length
  | [], w, ws, h => by simp [cutL] at h; rw [h.1]; exact Nat.le_refl _
  | x :: xs, w, ws, h => by
    rw [cut_cons] at h
    split at h
    · cases h; simp
    · cases hc : cutL sep xs with
      | nil => rw [hc] at h; cases h; simp
      | cons w' ws' =>
        rw [hc] at h
        have := cut_first hc
        cases h
        simpa using this
theorem take_more {s : List UInt8} {i k : Nat} (hik : i ≤ k) (hk : k < s.length) : (s.drop i).take (k + 1 - i) = (s.drop i).take (k - i) ++ [s[k]] := by
  have hl : k - i < (s.drop i).length := by rw [List.length_drop]; omega
  rw [show k + 1 - i = k - i + 1 by omega, List.take_succ_eq_append_getElem hl, List.getElem_drop]
  congr 3
  omega

/-! ### a record, read word by word -/
def readM (r c : Int) : List (List UInt8) → Option (List Int)
  | [] => some []
  | w :: ws => match readI r c w with | none => none | some k => (readM r c ws).map fun l => (k : Int) :: l
def readG (s : List UInt8) (hd ws : List (List UInt8)) : Option (Int × Int × List Int) :=
  if hd.length ≠ 2 ∨ (hd.getD 1 []).length ≠ 2 then none
  else match readM (digL (hd.getD 0 [])) (digL ((hd.getD 1 []).take 1)) ws with
    | none => none
    | some ms => if recT (digL (hd.getD 0 [])) (digL ((hd.getD 1 []).take 1)) ms = s ∧ s ≠ [] then some (digL (hd.getD 0 []), digL ((hd.getD 1 []).take 1), ms) else none
def readF (s : List UInt8) : Option (Int × Int × List Int) := readG s (cutL 120 ((cutL 32 s).headD [])) (cutL 32 s).tail

theorem readM_names {R C : Nat} (hB : BoardOf R C) (hb : boardB (R : Int) (C : Int) = true) : ∀ ms : List Int, (∀ m ∈ ms, ∃ k : Nat, m = (k : Int) ∧ k < R * C) → readM (R : Int) (C : Int) (ms.map fun m => nameL C m.toNat) = some ms
  | [], _ => rfl
  | m :: ms, h => by
    obtain ⟨k, rfl, hk⟩ := h m (List.mem_cons_self ..)
    rw [List.map_cons, readM, Int.toNat_natCast, readI_name hB hb hk, readM_names hB hb ms fun m hm => h m (List.mem_cons_of_mem _ hm)]
    rfl
theorem readF_rec {r c : Int} {ms : List Int} (h : recB r c ms = true) : readF (recTx r c ms) = some (r, c, ms) := by
  obtain ⟨h1, h2⟩ := cut_rec h
  have hb := rec_board h
  have hcs := rec_cells h
  have ht : recT r c ms = recTx r c ms := by unfold recT; rw [h]; rfl
  obtain ⟨R, C, rfl, rfl, hB⟩ := boardB_nat hb
  obtain ⟨b1, b2, b3, b4, b9⟩ := id hB
  simp only [Int.toNat_natCast] at h1 h2
  have d1 := digL_one (n := R) (by omega)
  have d2 := digL_one (n := C) (by omega)
  have hm := readM_names hB hb ms fun m hm => by
    obtain ⟨k, e, hk⟩ := hcs m hm
    rw [← Int.natCast_mul] at hk
    exact ⟨k, e, by omega⟩
  unfold readF
  rw [h1, List.headD_cons, List.tail_cons, h2]
  unfold readG
  rw [if_neg (by simp)]
  simp only [List.getD_cons_zero, List.getD_cons_succ, List.take_succ_cons, List.take_zero, d1, d2, hm]
  rw [ht, if_pos ⟨rfl, recTx_some _ _ _⟩]
theorem readF_eq (s : List UInt8) : readF s = readR s := by
  cases hr : readR s with
  | some q =>
    obtain ⟨h1, h2⟩ := readR_some.1 hr
    rw [← h2, readF_rec h1]
  | none =>
    cases hf : readF s with
    | none => rfl
    | some q =>
      unfold readF readG at hf
      split at hf
      · cases hf
      · split at hf
        · cases hf
        · rename_i ms _
          split at hf
          · rename_i hc
            generalize digL ((cutL 120 ((cutL 32 s).headD [])).getD 0 []) = r at hc hf
            generalize digL (((cutL 120 ((cutL 32 s).headD [])).getD 1 []).take 1) = c at hc hf
            have hrec : recB r c ms = true := by
              cases hb : recB r c ms with
              | true => rfl
              | false => rw [recT_nil.2 hb] at hc; exact absurd hc.1.symm hc.2
            have ht : recT r c ms = recTx r c ms := by unfold recT; rw [hrec]; rfl
            rw [ht] at hc
            have := readR_some (s := s) (q := (r, c, ms)) |>.2 ⟨hrec, hc.1⟩
            rw [this] at hr; cases hr
          · cases hf

end Go.Proofs.YtpaehbfknlpkbadDoor

/- The model's chapter 11, on: texts cut, numbers and records read. -/
set_option maxRecDepth 20000
namespace Go.Proofs.YtpaehbfknlpkbadDoor
open Go Go.Ip G

theorem OwnT.at {n i : Nat} {h : PHeap} {p : PV} {ss : List (List UInt8)} {x : List UInt8} (s : OwnT n h p ss) (hx : ss[i]? = some x) :
    ∃ a, indexAddrP Tryd.prog 43 p (.int .i64 (i : Int)) = some a ∧ loadP Tryd.prog 9 a h = some (.str (sB x)) := by
  have hi : i < ss.length := (List.getElem?_eq_some_iff.1 hx).1
  rcases s with ⟨rfl, rfl⟩ | ⟨id, _, rfl, h3⟩
  · cases hx
  · exact ⟨.ptr id (0 + i), by simp [indexAddrP, tyT1]; omega, by simp [loadP, tyTA, cellsAt, h3, PObj.get, hx]⟩
theorem OwnT.at0 {n : Nat} {h : PHeap} {p : PV} {ss : List (List UInt8)} {x : List UInt8} (s : OwnT n h p ss) (hx : ss[0]? = some x) :
    ∃ a, indexAddrP Tryd.prog 43 p (.int .i64 0) = some a ∧ loadP Tryd.prog 9 a h = some (.str (sB x)) := s.at hx
theorem OwnT.at1 {n : Nat} {h : PHeap} {p : PV} {ss : List (List UInt8)} {x : List UInt8} (s : OwnT n h p ss) (hx : ss[1]? = some x) :
    ∃ a, indexAddrP Tryd.prog 43 p (.int .i64 1) = some a ∧ loadP Tryd.prog 9 a h = some (.str (sB x)) := s.at hx
theorem OwnT.res {n : Nat} {h : PHeap} {p : PV} {ss : List (List UInt8)} (s : OwnT n h p ss) : resV p = some p := by
  rcases s with ⟨rfl, _⟩ | ⟨_, _, rfl, _⟩ <;> rfl
section
variable {Q : PV → PHeap → Prop} {f : PV → Res}
theorem wsub8 {P : Program} {t : TypeId} {x : Nat} (h1 : 48 ≤ x) (h2 : x < 256) (hf : W (f (.int .u8 ((x - 48 : Nat) : Int))) Q) : W ((binP P .sub t (.int .u8 (x : Int)) (.int .u8 48)).bind f) Q := by
  refine wbd ?_ hf
  rw [bin_sub]
  have : IntKind.u8.wrap ((x : Int) - 48) = ((x - 48 : Nat) : Int) := by
    show ((x : Int) - 48) % 256 = ((x - 48 : Nat) : Int)
    omega
  rw [this]
theorem conv8 {x : Nat} (hx : x < 256) : convP Tryd.prog 5 3 (.int .u8 (x : Int)) = some (.int .i64 (x : Int)) := by rw [conv_byte, wr (by omega)]
theorem wsidx0 {a : List UInt8} {x : UInt8} (hx : a[0]? = some x) (hf : W (f (.int .u8 (x.toNat : Int))) Q) : W ((indexP Tryd.prog 9 (.str (sB a)) (.int .i64 0)).bind f) Q := wsidx (i := 0) hx hf
theorem wssl01 {a : List UInt8} {h : PHeap} (hj : 1 ≤ a.length) (hf : W (f (.str (sB (a.take 1)))) Q) : W ((sliceP Tryd.prog 9 (.str (sB a)) none (some (.int .i64 1)) h).bind f) Q := wssl0 (j := 1) hj hf
end

variable (g : Nat → PV) (lf n : Nat)

theorem specCut_W (sep : UInt8) (s : List UInt8) (hlf : s.length + 1 < lf) (hs : s.length < 2 ^ 36 - 1) (N : Nat) (hN : 1 ≤ N) (h : PHeap) :
    W (CL g lf N fn_spec_l1Cut [.str (sB s), .int .u8 (sep.toNat : Int)] h) fun p h' => OwnT h.length h' p (cutL sep s) ∧ Keep h.length h h' := by
  obtain ⟨n, rfl⟩ : ∃ n, N = n + 1 := ⟨N - 1, by omega⟩
  rw [spec_l1Cut.call_eq]
  unfold spec_l1Cut.main
  simp only [env_lf, env_buildSlice]
  refine wtlit0 fun p h1 o1 k1 => ?_
  refine loopW (fun m st => ∃ (k i : Nat) (ws : List (List UInt8)) (q : PV) (h2 : PHeap), st = spec_l1Cut.st0 (.str (sB s)) (.int .u8 (sep.toNat : Int)) q (.int .i64 (i : Int)) (.int .i64 (k : Int)) h2 ∧ k + m = s.length ∧ i ≤ k ∧ ws.length ≤ k ∧ OwnT h.length h2 q ws ∧ Keep h.length h h2 ∧ cutL sep s = ws ++ cutA sep ((s.drop i).take (k - i)) (s.drop k)) ?_ lf s.length _ (by omega) ⟨0, 0, [], p, h1, rfl, by omega, Nat.le_refl _, Nat.le_refl _, o1, k1, by rw [Nat.sub_self, List.take_zero, List.drop_zero, cutA_nil]; rfl⟩
  rintro n1 m1 st ⟨k, i, ws, q, h2, rfl, hkm, hik, hws, o2, k2, hc⟩ next
  rw [spec_l1Cut.body0_eq]
  unfold spec_l1Cut.body0
  simp only [env_buildSlice, env_bin, env_slice, env_index, env_len, env_append]
  refine wslen ?_
  cases m1 with
  | zero =>
    obtain rfl : k = s.length := by omega
    repeat (first | with_reducible refine wF ?_ | with_reducible refine wlssF (by omega) ?_ | rw [kLoop_exit] | rw [spec_l1Cut.after0_se0_0_1_5_6_7_12] | simp only [env_C, env_Y, env_g, env_lf, env_pick, env_alloc, env_box, env_build, env_buildSlice, env_load, env_store, env_ptr, env_bin, env_un, env_conv, env_make, env_slice, env_fieldAddr, env_field, env_indexAddr, env_index, env_extract, env_len, env_append, env_max, env_min, env_makeMap, env_lookup, env_update, env_clos, env_bstr, env_ext])
    refine wssl1 (by omega) ?_
    refine wtap o2 k2.1 (by omega) fun q3 h3 o3 k3 => ?_
    refine wbd o3.res ?_
    refine W.ret ⟨?_, k2.trans k3⟩
    rw [hc, List.drop_length, cutA_end, List.take_of_length_le (by rw [List.length_drop]; exact Nat.le_refl _)]
    exact o3
  | succ m1 =>
    have hk : k < s.length := by omega
    have hd : s.drop k = s[k] :: s.drop (k + 1) := List.drop_eq_getElem_cons hk
    rw [hd] at hc
    refine wlssT (by omega) ?_
    refine wT ?_
    refine wsidx (List.getElem?_eq_getElem hk) ?_
    by_cases hx : s[k] = sep
    · rw [cutA_sep hx] at hc
      refine weqlT (by rw [hx]) ?_
      refine wT ?_
      refine wssl hik (by omega) ?_
      refine wtap o2 k2.1 (by omega) fun q3 h3 o3 k3 => ?_
      repeat (first | with_reducible refine wadd1 (by omega) ?_ | dsimp only)
      refine next _ _ (Nat.lt_succ_self _) ⟨k + 1, k + 1, _, q3, h3, rfl, by omega, Nat.le_refl _, ?_, o3, k2.trans k3, ?_⟩
      · rw [List.length_append]; simp; omega
      · rw [hc, Nat.sub_self, List.take_zero, List.append_assoc]; rfl
    · rw [cutA_more hx, ← take_more hik hk] at hc
      refine weqlF (fun e => hx (UInt8.toNat_inj.1 (by omega))) ?_
      repeat (first | with_reducible refine wF ?_ | with_reducible refine wadd1 (by omega) ?_)
      exact next _ _ (Nat.lt_succ_self _) ⟨k + 1, i, ws, q, h2, rfl, by omega, by omega, by omega, o2, k2, hc⟩

theorem specDigits_W (hlf : 1000 < lf) (s : List UInt8) (N : Nat) (hN : 2 ≤ N) (h : PHeap) :
    W (CL g lf N fn_spec_l1Digits [.str (sB s)] h) fun v h' => v = .int .i64 (digL s) ∧ h' = h := by
  obtain ⟨n, rfl⟩ : ∃ n, N = n + 1 := ⟨N - 1, by omega⟩
  have e1 := l1In_N g lf n (by omega) h (s.length : Int) 1 6
  rw [spec_l1Digits.call_eq]
  unfold spec_l1Digits.main
  simp only [env_C, env_lf, env_pick, env_bin, env_un, env_index, env_len]
  refine wslen ?_
  by_cases hl : (1 : Int) ≤ (s.length : Int) ∧ (s.length : Int) ≤ 6
  · rw [decide_eq_true hl] at e1
    obtain ⟨x, xs, rfl⟩ : ∃ x xs, s = x :: xs := by
      cases s with
      | nil => simp at hl
      | cons x xs => exact ⟨x, xs, rfl⟩
    generalize hs : x :: xs = s at *
    have h0 : s[0]? = some x := by rw [← hs]; rfl
    by_cases hz : 1 < s.length ∧ x = 48
    · have hd : digL s = -1 := by unfold digL; rw [if_neg]; rintro ⟨_, a⟩; exact a ⟨hz.1, by rw [← hs, hz.2]; rfl⟩
      obtain ⟨hz1, rfl⟩ := hz
      repeat (first | with_reducible refine wT ?_ | with_reducible refine wg1 rfl ?_ | with_reducible refine wpT ?_ | with_reducible refine wpF ?_ | with_reducible refine wnT ?_ | with_reducible refine wpv ?_ | with_reducible refine wsm ?_ | with_reducible refine wrI ?_ | with_reducible refine wbd (by assumption) ?_ | (with_reducible refine wslen ?_) | (with_reducible refine wsidx0 h0 ?_) | (with_reducible refine weqlT (by decide) ?_) | with_reducible refine wgtrT (by omega) ?_ | dsimp only)
      exact W.ret ⟨by rw [hd], rfl⟩
    · have hd : digL s = digF 0 s := by unfold digL; rw [if_pos]; exact ⟨by omega, by rintro ⟨a, b⟩; rw [← hs] at b; exact hz ⟨a, Option.some.inj b⟩⟩
      rw [hd]
      have hx48 : 1 < s.length → ¬ ((x.toNat : Nat) : Int) = 48 := fun a e => hz ⟨a, UInt8.toNat_inj.1 (by show x.toNat = 48; omega)⟩
      suffices hmain : W (loopK (ev ((env g lf n).cx Tryd.prog spec_l1Digits.kl) spec_l1Digits.lp0) lf (spec_l1Digits.st0 (.str (sB s)) (.int .i64 0) (.int .i64 0) h) (spec_l1Digits.K0 (env g lf n) (kTop Tryd.prog Tryd.f31))) fun v h' => v = .int .i64 (digF 0 s) ∧ h' = h by
        by_cases h1 : 1 < s.length
        · have := hx48 h1
          repeat (first | with_reducible refine wF ?_ | with_reducible refine wg1 rfl ?_ | with_reducible refine wpT ?_ | with_reducible refine wpF ?_ | with_reducible refine wnT ?_ | with_reducible refine wpv ?_ | with_reducible refine wsm ?_ | with_reducible refine wbd (by assumption) ?_ | (with_reducible refine wslen ?_) | (with_reducible refine wsidx0 h0 ?_) | with_reducible refine wgtrT (by omega) ?_ | with_reducible refine weqlF (by omega) ?_ | dsimp only)
          exact hmain
        · repeat (first | with_reducible refine wF ?_ | with_reducible refine wg1 rfl ?_ | with_reducible refine wg0 rfl ?_ | with_reducible refine wpF ?_ | with_reducible refine wnT ?_ | with_reducible refine wpv ?_ | with_reducible refine wsm ?_ | with_reducible refine wbd (by assumption) ?_ | (with_reducible refine wslen ?_) | with_reducible refine wgtrF (by omega) ?_ | dsimp only)
          exact hmain
      refine loopW (fun m st => ∃ (k v : Nat), st = spec_l1Digits.st0 (.str (sB s)) (.int .i64 (v : Int)) (.int .i64 (k : Int)) h ∧ k + m = s.length ∧ v < 10 ^ k ∧ digF 0 s = digF (v : Int) (s.drop k)) ?_ lf s.length _ (by omega) ⟨0, 0, rfl, by omega, by decide, rfl⟩
      rintro n1 m1 st ⟨k, v, rfl, hkm, hv, he⟩ next
      rw [spec_l1Digits.body0_eq]
      unfold spec_l1Digits.body0
      simp only [env_pick, env_bin, env_conv, env_index, env_len]
      refine wslen ?_
      cases m1 with
      | zero =>
        obtain rfl : k = s.length := by omega
        rw [List.drop_length] at he
        repeat (first | with_reducible refine wF ?_ | with_reducible refine wrI ?_ | with_reducible refine wlssF (by omega) ?_ | rw [kLoop_exit] | rw [spec_l1Digits.after0_se0_0_3_4_22])
        exact W.ret ⟨by rw [he]; rfl, rfl⟩
      | succ m1 =>
        have hk : k < s.length := by omega
        have hd : s.drop k = s[k] :: s.drop (k + 1) := List.drop_eq_getElem_cons hk
        have hp : 10 ^ k ≤ 10 ^ 6 := Nat.pow_le_pow_right (by decide) (by omega)
        rw [hd] at he
        simp only [digF] at he
        have hlt : s[k].toNat < 256 := UInt8.toNat_lt s[k]
        have ec := conv8 (x := s[k].toNat - 48) (by omega)
        have hget := List.getElem?_eq_getElem hk
        by_cases ha : s[k].toNat < 48
        · rw [if_pos (.inl (UInt8.lt_iff_toNat_lt.2 ha))] at he
          repeat (first | with_reducible refine wT ?_ | with_reducible refine wg0 rfl ?_ | with_reducible refine wpT ?_ | with_reducible refine wsm ?_ | with_reducible refine wrI ?_ | (with_reducible refine wsidx hget ?_) | with_reducible refine wlssT (by omega) ?_ | rw [kLoop_ret] | rw [spec_l1Digits.K0_ret] | rw [spec_l1Digits.top_sr_2] | dsimp only)
          exact W.ret ⟨by rw [he], rfl⟩
        · by_cases hb : 57 < s[k].toNat
          · rw [if_pos (.inr (UInt8.lt_iff_toNat_lt.2 hb))] at he
            repeat (first | with_reducible refine wT ?_ | with_reducible refine wg1 rfl ?_ | with_reducible refine wpF ?_ | with_reducible refine wpv ?_ | with_reducible refine wsm ?_ | with_reducible refine wrI ?_ | (with_reducible refine wsidx hget ?_) | with_reducible refine wlssT (by omega) ?_ | with_reducible refine wlssF (by omega) ?_ | with_reducible refine wgtrT (by omega) ?_ | rw [kLoop_ret] | rw [spec_l1Digits.K0_ret] | rw [spec_l1Digits.top_sr_2] | dsimp only)
            exact W.ret ⟨by rw [he], rfl⟩
          · rw [if_neg (fun a => a.elim (fun a => ha (UInt8.lt_iff_toNat_lt.1 a)) (fun a => hb (UInt8.lt_iff_toNat_lt.1 a)))] at he
            repeat (first | with_reducible refine wT ?_ | with_reducible refine wF ?_ | with_reducible refine wg1 rfl ?_ | with_reducible refine wpF ?_ | with_reducible refine wpv ?_ | with_reducible refine wsm ?_ | with_reducible refine wbd (by assumption) ?_ | (with_reducible refine wsidx hget ?_) | (with_reducible refine wsub8 (by omega) (by omega) ?_) | with_reducible refine wadd1 (by omega) ?_ | with_reducible refine wlssT (by omega) ?_ | with_reducible refine wlssF (by omega) ?_ | with_reducible refine wgtrF (by omega) ?_ | with_reducible refine wadd (by omega) ?_ | with_reducible refine wmul (by omega) ?_ | dsimp only)
            refine next _ _ (Nat.lt_succ_self _) ⟨k + 1, 10 * v + (s[k].toNat - 48), ?_, by omega, ?_, ?_⟩
            · rw [show ((10 * v + (s[k].toNat - 48) : Nat) : Int) = 10 * (v : Int) + ((s[k].toNat - 48 : Nat) : Int) by omega]
            · rw [Nat.pow_succ]; omega
            · rw [he]; congr 1; omega
  · rw [decide_eq_false hl] at e1
    have hd : digL s = -1 := by unfold digL; rw [if_neg]; rintro ⟨a, _⟩; omega
    repeat (first | with_reducible refine wT ?_ | with_reducible refine wg0 rfl ?_ | with_reducible refine wgu ?_ | with_reducible refine wpT ?_ | with_reducible refine wnF ?_ | with_reducible refine wsm ?_ | with_reducible refine wrI ?_ | with_reducible refine wbd (by assumption) ?_ | dsimp only)
    exact W.ret ⟨by rw [hd], rfl⟩
theorem specDigits_N (hlf : 1000 < lf) (s : List UInt8) (N : Nat) (hN : 2 ≤ N) (h : PHeap) : CL g lf N fn_spec_l1Digits [.str (sB s)] h = some (.int .i64 (digL s), h) := by
  obtain ⟨v, h', e, rfl, rfl⟩ := specDigits_W g lf hlf s N hN h
  exact e

end Go.Proofs.YtpaehbfknlpkbadDoor

/- The model's chapter 11, on: records read, slips, the best record. -/
set_option maxRecDepth 20000
namespace Go.Proofs.YtpaehbfknlpkbadDoor
open Go Go.Ip G

variable (g : Nat → PV) (lf n : Nat)

/-- What the reading of a record hands back. -/
def RecV (b : Nat) (h : PHeap) (v : PV) (o : Option (Int × Int × List Int)) : Prop :=
  ∃ q, v = .tup [.int .i64 (o.getD (0, 0, [])).1, .int .i64 (o.getD (0, 0, [])).2.1, q, .bool o.isSome] ∧ OwnSl b h q (o.getD (0, 0, [])).2.2

theorem specReadRecord_W (hlf : 1000 < lf) (s : List UInt8) (hls : s.length + 2 < lf) (hs : s.length < 2 ^ 35) (N : Nat) (hN : 11 ≤ N) (h : PHeap) :
    W (CL g lf N fn_spec_ReadRecord [.str (sB s)] h) fun v h' => RecV h.length h' v (readR s) ∧ Keep h.length h h' := by
  obtain ⟨n, rfl⟩ : ∃ n, N = n + 1 := ⟨N - 1, by omega⟩
  rw [spec_ReadRecord.call_eq]
  unfold spec_ReadRecord.main
  simp only [env_C, env_lf, env_pick, env_buildSlice, env_load, env_bin, env_slice, env_indexAddr, env_len]
  have c1 := specCut_W g lf 32 s (by omega) (by omega) n (by omega) h
  refine wcall c1 fun p h1 ⟨o1, k1⟩ => ?_
  have hwl := cut_length 32 s
  obtain ⟨w0, ws, hw⟩ : ∃ w0 ws, cutL 32 s = w0 :: ws := by
    cases hc : cutL 32 s with
    | nil => exact absurd hc (cut_some 32 s)
    | cons w0 ws => exact ⟨w0, ws, rfl⟩
  have hF : readR s = readG s (cutL 120 w0) ws := by rw [← readF_eq]; unfold readF; rw [hw]; rfl
  rw [hF]
  rw [hw] at o1 hwl
  obtain ⟨a0, e1, e2⟩ := o1.at0 (x := w0) rfl
  refine wbd e1 ?_
  refine wbd e2 ?_
  have hw0 : w0.length ≤ s.length := cut_first hw
  have c2 := specCut_W g lf 120 w0 (by omega) (by omega) n (by omega) h1
  refine wcall c2 fun p2 h2 ⟨o2, k2⟩ => ?_
  generalize hhd : cutL 120 w0 = hd at o2 ⊢
  have k12 : Keep h.length h h2 := k1.trans (k2.mono k1.1)
  have e3 := o2.len
  refine wbd e3 ?_
  by_cases hl2 : hd.length = 2
  case neg =>
    have hn : readG s hd ws = none := by unfold readG; rw [if_pos (.inl hl2)]
    rw [hn]
    repeat (first | with_reducible refine wT ?_ | with_reducible refine wg0 rfl ?_ | with_reducible refine wpT ?_ | with_reducible refine wsm ?_ | with_reducible refine wrI ?_ | with_reducible refine wrB ?_ | (refine wempty fun q4 h4 o4 k4 => ?_) | with_reducible refine wneqT (by omega) ?_ | with_reducible refine wresO (by assumption) ?_ | dsimp only)
    exact W.ret ⟨⟨q4, rfl, o4.mono k12.1⟩, k12.trans (k4.mono k12.1)⟩
  case pos =>
  obtain ⟨x0, x1, rfl⟩ : ∃ x0 x1, hd = [x0, x1] := by
    match hd, hl2 with
    | [x0, x1], _ => exact ⟨x0, x1, rfl⟩
  obtain ⟨a1, e4, e5⟩ := o2.at0 (x := x0) rfl
  obtain ⟨a2, e6, e7⟩ := o2.at1 (x := x1) rfl
  by_cases hx2 : x1.length = 2
  case neg =>
    have hn : readG s [x0, x1] ws = none := by unfold readG; rw [if_pos (.inr hx2)]
    rw [hn]
    repeat (first | with_reducible refine wT ?_ | with_reducible refine wg1 rfl ?_ | with_reducible refine wpF ?_ | with_reducible refine wpv ?_ | with_reducible refine wsm ?_ | with_reducible refine wrI ?_ | with_reducible refine wrB ?_ | with_reducible refine wbd (by assumption) ?_ | (with_reducible refine wslen ?_) | (refine wempty fun q4 h4 o4 k4 => ?_) | with_reducible refine wneqT (by omega) ?_ | with_reducible refine wneqF (by omega) ?_ | with_reducible refine wresO (by assumption) ?_ | dsimp only)
    exact W.ret ⟨⟨q4, rfl, o4.mono k12.1⟩, k12.trans (k4.mono k12.1)⟩
  case pos =>
  have d1 := specDigits_N g lf hlf x0 n (by omega) h2
  have d2 := specDigits_N g lf hlf (x1.take 1) n (by omega) h2
  repeat (first | with_reducible refine wF ?_ | with_reducible refine wg1 rfl ?_ | with_reducible refine wpF ?_ | with_reducible refine wpv ?_ | with_reducible refine wsm ?_ | with_reducible refine wbd (by assumption) ?_ | (with_reducible refine wslen ?_) | (with_reducible refine wssl01 (by omega) ?_) | with_reducible refine wneqF (by omega) ?_ | dsimp only)
  refine wempty fun q h3 o3 k3 => ?_
  have hG : readG s [x0, x1] ws = match readM (digL x0) (digL (x1.take 1)) ws with
      | none => none
      | some ms => if recT (digL x0) (digL (x1.take 1)) ms = s ∧ s ≠ [] then some (digL x0, digL (x1.take 1), ms) else none := by
    unfold readG; rw [if_neg (by simp [hx2])]; rfl
  rw [hG]
  generalize digL x0 = r
  generalize digL (x1.take 1) = c
  clear hG hF e3 e4 e5 e6 e7 d1 d2 c1 c2
  refine loopW (fun m st => ∃ (k : Nat) (acc : List Int) (q : PV) (h4 : PHeap), st = spec_ReadRecord.st0 (.str (sB s)) p (.int .i64 r) (.int .i64 c) q (.int .i64 (k : Int)) h4 ∧ k + m = (w0 :: ws).length ∧ 1 ≤ k ∧ acc.length ≤ k ∧ OwnSl h2.length h4 q acc ∧ Keep h2.length h2 h4 ∧ readM r c ws = (readM r c ((w0 :: ws).drop k)).map fun l => acc ++ l) ?_ lf ws.length _ (by simp at hwl; omega) ⟨1, [], q, h3, rfl, by simp; omega, Nat.le_refl _, Nat.zero_le _, o3, k3, by simp⟩
  rintro n1 m1 st ⟨k, acc, q', h4, rfl, hkm, hk1, hal, o4, k4, hM⟩ next
  have k24 : Keep h.length h h4 := k12.trans (k4.mono k12.1)
  have ol := o1.keep (k2.trans (k4.mono k2.1))
  have hlen := ol.len
  rw [spec_ReadRecord.body0_eq]
  unfold spec_ReadRecord.body0
  simp only [env_C, env_buildSlice, env_load, env_bin, env_un, env_indexAddr, env_extract, env_len, env_append]
  refine wbd hlen ?_
  cases m1 with
  | zero =>
    obtain rfl : k = (w0 :: ws).length := by omega
    rw [List.drop_length] at hM
    have hM' : readM r c ws = some acc := by rw [hM]; simp [readM]
    rw [hM']
    repeat (first | with_reducible refine wF ?_ | with_reducible refine wlssF (by omega) ?_ | rw [kLoop_exit] | rw [spec_ReadRecord.after0_se0_0_6_8_9_10_11_44] | dsimp only | simp only [env_C, env_Y, env_g, env_lf, env_pick, env_alloc, env_box, env_build, env_buildSlice, env_load, env_store, env_ptr, env_bin, env_un, env_conv, env_make, env_slice, env_fieldAddr, env_field, env_indexAddr, env_index, env_extract, env_len, env_append, env_max, env_min, env_makeMap, env_lookup, env_update, env_clos, env_bstr, env_ext])
    refine wcall (specRecordText_W g lf hlf r c o4.int n (by omega)) fun v h5 ⟨hv, k5⟩ => ?_
    subst hv
    have k25 := k24.trans (k5.mono k24.1)
    have o5 := o4.keep k5
    by_cases hT : recT r c acc = s
    · by_cases hs0 : s = []
      · have hn : (if recT r c acc = s ∧ s ≠ [] then some (r, c, acc) else none) = none := if_neg fun a => a.2 hs0
        show W _ fun v h' => RecV h.length h' v (if recT r c acc = s ∧ s ≠ [] then some (r, c, acc) else none) ∧ Keep h.length h h'
        rw [hn]
        repeat (first | with_reducible refine wT ?_ | with_reducible refine wg1 rfl ?_ | with_reducible refine wpF ?_ | with_reducible refine wpv ?_ | with_reducible refine wsm ?_ | with_reducible refine wrI ?_ | with_reducible refine wrB ?_ | (with_reducible refine wsneF hT ?_) | (with_reducible refine wseqT hs0 ?_) | (refine wempty fun q6 h6 o6 k6 => ?_) | with_reducible refine wresO (by assumption) ?_ | dsimp only)
        exact W.ret ⟨⟨q6, rfl, o6.mono k25.1⟩, k25.trans (k6.mono k25.1)⟩
      · have hn : (if recT r c acc = s ∧ s ≠ [] then some (r, c, acc) else none) = some (r, c, acc) := if_pos ⟨hT, hs0⟩
        show W _ fun v h' => RecV h.length h' v (if recT r c acc = s ∧ s ≠ [] then some (r, c, acc) else none) ∧ Keep h.length h h'
        rw [hn]
        repeat (first | with_reducible refine wF ?_ | with_reducible refine wg1 rfl ?_ | with_reducible refine wpF ?_ | with_reducible refine wpv ?_ | with_reducible refine wsm ?_ | with_reducible refine wrI ?_ | with_reducible refine wrB ?_ | (with_reducible refine wsneF hT ?_) | (with_reducible refine wseqF hs0 ?_) | with_reducible refine wresO (by assumption) ?_ | dsimp only)
        exact W.ret ⟨⟨q', rfl, o5.mono k12.1⟩, k25⟩
    · have hn : (if recT r c acc = s ∧ s ≠ [] then some (r, c, acc) else none) = none := if_neg fun a => hT a.1
      show W _ fun v h' => RecV h.length h' v (if recT r c acc = s ∧ s ≠ [] then some (r, c, acc) else none) ∧ Keep h.length h h'
      rw [hn]
      repeat (first | with_reducible refine wT ?_ | with_reducible refine wg0 rfl ?_ | with_reducible refine wpT ?_ | with_reducible refine wsm ?_ | with_reducible refine wrI ?_ | with_reducible refine wrB ?_ | (with_reducible refine wsneT hT ?_) | (refine wempty fun q6 h6 o6 k6 => ?_) | with_reducible refine wresO (by assumption) ?_ | dsimp only)
      exact W.ret ⟨⟨q6, rfl, o6.mono k25.1⟩, k25.trans (k6.mono k25.1)⟩
  | succ m1 =>
    have hk : k < (w0 :: ws).length := by omega
    have hd : (w0 :: ws).drop k = (w0 :: ws)[k] :: (w0 :: ws).drop (k + 1) := List.drop_eq_getElem_cons hk
    obtain ⟨a, e8, e9⟩ := ol.at (List.getElem?_eq_getElem hk)
    rw [hd] at hM
    simp only [readM] at hM
    repeat (first | with_reducible refine wT ?_ | with_reducible refine wbd (by assumption) ?_ | with_reducible refine wlssT (by omega) ?_)
    refine wcall (specReadCell_W g lf hlf n (by omega) r c _ h4) fun v h5 ⟨hv, k5⟩ => ?_
    subst hv
    have k25 := k24.trans (k5.mono k24.1)
    cases hi : readI r c (w0 :: ws)[k] with
    | none =>
      rw [hi] at hM
      have hM' : readM r c ws = none := hM
      rw [hM']
      unfold readV
      repeat (first | with_reducible refine wT ?_ | with_reducible refine wnF ?_ | with_reducible refine wrI ?_ | with_reducible refine wrB ?_ | with_reducible refine wx0 ?_ | with_reducible refine wx1 ?_ | (refine wempty fun q6 h6 o6 k6 => ?_) | with_reducible refine wresO (by assumption) ?_ | rw [kLoop_ret] | rw [spec_ReadRecord.K0_ret] | rw [spec_ReadRecord.top_sr_2_3_4_5] | dsimp only)
      exact W.ret ⟨⟨q6, rfl, o6.mono k25.1⟩, k25.trans (k6.mono k25.1)⟩
    | some j =>
      rw [hi] at hM
      unfold readV
      repeat (first | with_reducible refine wF ?_ | with_reducible refine wnT ?_ | with_reducible refine wx0 ?_ | with_reducible refine wx1 ?_ | dsimp only)
      refine wap (o4.keep k5) (Nat.le_trans k4.1 k5.1) (by simp at hkm hwl; omega) fun q6 h6 o6 k6 => ?_
      repeat (first | with_reducible refine wadd1 (by omega) ?_ | dsimp only)
      refine next _ _ (Nat.lt_succ_self _) ⟨k + 1, acc ++ [(j : Int)], q6, h6, rfl, by omega, by omega, by rw [List.length_append]; simp; omega, o6, k4.trans ((k5.mono k4.1).trans k6), ?_⟩
      rw [hM]
      cases readM r c ((w0 :: ws).drop (k + 1)) with
      | none => rfl
      | some l => simp

theorem slips_step {r c : Int} {xs : List Int} {t : Int} {k : Nat} {m : Int} {ms : List Int} : slipsF r c xs t k (m :: ms) = (if winL r c xs t = t ∧ winL r c (xs.set m.toNat t) (3 - t) ≠ t then [(k : Int)] else []) ++ slipsF r c (xs.set m.toNat t) (3 - t) (k + 1) ms := rfl

theorem specSlipsOf_W (hlf : 1000 < lf) (r c : Int) {ms : List Int} {p : PV} {h : PHeap} (hp : IntSl .i64 h p ms) (N : Nat) (hN : 18 ≤ N) :
    W (CL g lf N fn_spec_SlipsOf [.int .i64 r, .int .i64 c, p] h) fun q h' => OwnSl h.length h' q (slipsL r c ms) ∧ Keep h.length h h' := by
  obtain ⟨n, rfl⟩ : ∃ n, N = n + 1 := ⟨N - 1, by omega⟩
  rw [spec_SlipsOf.call_eq]
  unfold spec_SlipsOf.main
  simp only [env_C, env_lf, env_pick, env_buildSlice, env_bin, env_un, env_make]
  refine wempty fun q h1 o1 k1 => ?_
  have hp1 := hp.keep k1
  refine wcall (specRecordOk_W g lf hlf r c hp1 n (by omega)) fun v h2 ⟨hv, k2⟩ => ?_
  subst hv
  have k12 := k1.trans (k2.mono k1.1)
  have o2 := o1.keep k2
  cases hr : recB r c ms with
  | false =>
    have he : slipsL r c ms = [] := by unfold slipsL; rw [hr, if_neg (by simp)]
    rw [he]
    repeat (first | with_reducible refine wT ?_ | with_reducible refine wg0 rfl ?_ | with_reducible refine wpT ?_ | with_reducible refine wnF ?_ | with_reducible refine wsm ?_ | with_reducible refine wresO (by assumption) ?_ | dsimp only)
    exact W.ret ⟨o2, k12⟩
  | true =>
    have hb := rec_board hr
    have h9 := (rec_length hr).2
    obtain ⟨hpl, _⟩ := rec_end hr
    obtain ⟨R, C, rfl, rfl, hB⟩ := boardB_nat hb
    obtain ⟨b1, b2, b3, b4, b9⟩ := id hB
    by_cases h6 : R * C ≤ 6
    case neg =>
      have he : slipsL (R : Int) (C : Int) ms = [] := by unfold slipsL; rw [if_neg]; rintro ⟨_, a⟩; rw [← Int.natCast_mul] at a; omega
      rw [he]
      repeat (first | with_reducible refine wT ?_ | with_reducible refine wg1 rfl ?_ | with_reducible refine wpF ?_ | with_reducible refine wnT ?_ | with_reducible refine wpv ?_ | with_reducible refine wsm ?_ | with_reducible refine wmulN (by omega) ?_ | with_reducible refine wgtrT (by omega) ?_ | with_reducible refine wresO (by assumption) ?_ | dsimp only)
      exact W.ret ⟨o2, k12⟩
    case pos =>
    have he : slipsL (R : Int) (C : Int) ms = slipsF (R : Int) (C : Int) (startL (R : Int) (C : Int)) 1 0 ms := by unfold slipsL; rw [if_pos ⟨hr, by rw [← Int.natCast_mul]; omega⟩]
    rw [he]
    repeat (first | with_reducible refine wF ?_ | with_reducible refine wg1 rfl ?_ | with_reducible refine wpF ?_ | with_reducible refine wnT ?_ | with_reducible refine wpv ?_ | with_reducible refine wsm ?_ | with_reducible refine wmulN (by omega) ?_ | with_reducible refine wgtrF (by omega) ?_ | dsimp only)
    refine wmake (by omega) fun q3 h3 o3 k3 => ?_
    rw [← start_nat] at o3
    have hp0 := start_pos hb
    obtain ⟨R', C', hS⟩ := sides_of hp0
    obtain ⟨hR', hC', _⟩ := id hS
    obtain rfl : R = R' := by omega
    obtain rfl : C = C' := by omega
    refine loopW (fun m st => ∃ (k T : Nat) (xs acc : List Int) (q4 q5 : PV) (h4 : PHeap), st = spec_SlipsOf.st0 (.int .i64 (R : Int)) (.int .i64 (C : Int)) p q4 q5 (.int .i64 (T : Int)) (.int .i64 (k : Int)) h4 ∧ k + m = ms.length ∧ acc.length ≤ k ∧ (T = 1 ∨ T = 2) ∧ posB (R : Int) (C : Int) xs = true ∧ Sides (R : Int) (C : Int) R C xs ∧ (playTo (R : Int) (C : Int) xs (T : Int) (ms.drop k)).isSome = true ∧
      slipsF (R : Int) (C : Int) (startL (R : Int) (C : Int)) 1 0 ms = acc ++ slipsF (R : Int) (C : Int) xs (T : Int) k (ms.drop k) ∧ (∃ c1 c2, c2 ≤ h4.length ∧ Apart h.length c1 c2 h4 q4 acc ∧ OwnB c1 c2 h4 q5 xs) ∧ Keep h.length h h4) ?_ lf ms.length _ (by omega) ⟨0, 1, _, [], q, q3, h3, rfl, by omega, Nat.le_refl _, .inl rfl, hp0, hS, ?_, rfl, ⟨h2.length, h3.length, Nat.le_refl _, ⟨h.length, h2.length, o2.b.keep k3, Nat.le_refl _, .inl (Nat.le_refl _), k3.1⟩, o3.b⟩, k12.trans (k3.mono k12.1)⟩
    case refine_2 =>
      rw [List.drop_zero]
      show (playTo (R : Int) (C : Int) (startL (R : Int) (C : Int)) 1 ms).isSome = true
      rw [hpl]; rfl
    rintro n1 m1 st ⟨k, T, xs, acc, q4, q5, h4, rfl, hkm, hal, hT, hps, hSx, hpt, hsl, ⟨c1, c2, hc2, oA, oB⟩, k4⟩ next
    have hp4 := hp.keep k4
    rw [spec_SlipsOf.body0_eq]
    unfold spec_SlipsOf.body0
    simp only [env_C, env_pick, env_buildSlice, env_load, env_bin, env_indexAddr, env_extract, env_len, env_append]
    cases m1 with
    | zero =>
      obtain rfl : k = ms.length := by omega
      rw [List.drop_length] at hsl
      have hsl' : slipsF (R : Int) (C : Int) (startL (R : Int) (C : Int)) 1 0 ms = acc := by rw [hsl]; simp [slipsF]
      rw [hsl']
      have os := oA.sl
      repeat (first | with_reducible refine wF ?_ | with_reducible refine wlen (by assumption) ?_ | with_reducible refine wlssF (by omega) ?_ | with_reducible refine wresO (by assumption) ?_ | rw [kLoop_exit] | rw [spec_SlipsOf.after0_se0_0_1_2_7_8_9_10_33])
      exact W.ret ⟨os, k4⟩
    | succ m1 =>
      have hk : k < ms.length := by omega
      have hd : ms.drop k = ms[k] :: ms.drop (k + 1) := List.drop_eq_getElem_cons hk
      rw [hd] at hpt hsl
      rw [slips_step] at hsl
      simp only [playTo] at hpt
      cases hmv : moveL (R : Int) (C : Int) xs ms[k] (T : Int) with
      | false => rw [hmv] at hpt; simp at hpt
      | true =>
      rw [hmv, if_pos rfl] at hpt
      obtain ⟨j, hj, hjl⟩ := moveL_cell hmv
      have hT' : 3 - T = 1 ∨ 3 - T = 2 := by omega
      have e3T : (3 : Int) - (T : Int) = ((3 - T : Nat) : Int) := by omega
      have hlen : xs.length = R * C := hSx.2.2.2.2.2.2.2.1
      have hps2 := pos_set hps hT j
      have hS2 : Sides (R : Int) (C : Int) R C (xs.set j (T : Int)) := sides_set hps hSx hT
      obtain ⟨h5, e1, k5⟩ := winner_W g lf hSx hT oB.sl.int hlf n (by omega)
      obtain ⟨q6, h6, e2, o6, k6⟩ := specPlayed_calls g lf n (by omega) (R : Int) (C : Int) ms[k] (T : Int) (oB.sl.int.keep k5) (by omega) (by omega) hlf
      unfold playedL at o6
      rw [hmv, if_pos rfl] at o6
      rw [hmv] at e2
      rw [hj, Int.toNat_natCast] at hpt hsl o6
      rw [e3T] at hpt hsl
      have ho := other_W g lf n (by omega) h6 hT
      obtain ⟨h7, e4, k7⟩ := winner_W g lf hS2 hT' o6.int hlf n (by omega)
      have ho2 := other_W g lf n (by omega) h7 hT
      rw [winL_eq hps hT, winL_eq hps2 hT'] at hsl
      generalize winN R C (setL xs 1) (setL xs 2) T = W1 at e1 hsl
      generalize winN R C (setL (xs.set j (T : Int)) 1) (setL (xs.set j (T : Int)) 2) (3 - T) = W2 at e4 hsl
      have hp5 := hp4.keep k5
      have k47 : Keep h4.length h4 h7 := k5.trans ((k6.mono k5.1).trans (k7.mono (Nat.le_trans k5.1 k6.1)))
      have k07 := k4.trans (k47.mono k4.1)
      have oA7 : Apart h.length h5.length h6.length h7 q4 acc := by
        obtain ⟨a, b, o, i1, i2, i3⟩ := oA
        exact ⟨a, b, o.keep (k47.mono i3), i1, .inl (Nat.le_trans i3 k5.1), Nat.le_trans i3 k47.1⟩
      have oB7 : OwnB h5.length h6.length h7 q6 (xs.set j (T : Int)) := o6.b.keep k7
      by_cases hw1 : (W1 : Int) = (T : Int)
      · by_cases hw2 : (W2 : Int) = (T : Int)
        · rw [if_neg (fun a => a.2 hw2), List.nil_append] at hsl
          repeat (first | with_reducible refine wT ?_ | with_reducible refine wF ?_ | with_reducible refine wg1 rfl ?_ | with_reducible refine wpT ?_ | with_reducible refine wpv ?_ | with_reducible refine wsm ?_ | with_reducible refine wx0 ?_ | with_reducible refine wx1 ?_ | with_reducible refine wbd (by assumption) ?_ | with_reducible refine wlen (by assumption) ?_ | (refine wat hp5 hk fun a ea => ?_) | with_reducible refine wadd1 (by omega) ?_ | with_reducible refine wlssT (by omega) ?_ | with_reducible refine weqlT (by omega) ?_ | with_reducible refine wneqF (by omega) ?_ | dsimp only)
          exact next _ _ (Nat.lt_succ_self _) ⟨k + 1, 3 - T, _, acc, q4, q6, h7, rfl, by omega, by omega, hT', hps2, hS2, hpt, hsl, ⟨_, _, k7.1, oA7, oB7⟩, k07⟩
        · rw [if_pos ⟨hw1, hw2⟩] at hsl
          repeat (first | with_reducible refine wT ?_ | with_reducible refine wg1 rfl ?_ | with_reducible refine wpT ?_ | with_reducible refine wpv ?_ | with_reducible refine wsm ?_ | with_reducible refine wx0 ?_ | with_reducible refine wx1 ?_ | with_reducible refine wbd (by assumption) ?_ | with_reducible refine wlen (by assumption) ?_ | (refine wat hp5 hk fun a ea => ?_) | with_reducible refine wlssT (by omega) ?_ | with_reducible refine weqlT (by omega) ?_ | with_reducible refine wneqT (by omega) ?_ | dsimp only)
          refine wapA oA7 oB7 k07.1 k7.1 (by omega) fun p' h8 oA8 oB8 k8 => ?_
          have ho8 := other_W g lf n (by omega) h8 hT
          have h78 : h7.length ≤ h8.length := k8.1
          repeat (first | with_reducible refine wbd (by assumption) ?_ | with_reducible refine wadd1 (by omega) ?_ | dsimp only)
          exact next _ _ (Nat.lt_succ_self _) ⟨k + 1, 3 - T, _, acc ++ [(k : Int)], p', q6, h8, rfl, by omega, by rw [List.length_append]; simp; omega, hT', hps2, hS2, hpt, by rw [hsl, List.append_assoc], ⟨_, _, Nat.le_trans k7.1 h78, oA8, oB8⟩, k07.trans k8⟩
      · rw [if_neg (fun a => hw1 a.1), List.nil_append] at hsl
        repeat (first | with_reducible refine wT ?_ | with_reducible refine wF ?_ | with_reducible refine wg0 rfl ?_ | with_reducible refine wpF ?_ | with_reducible refine wsm ?_ | with_reducible refine wx0 ?_ | with_reducible refine wx1 ?_ | with_reducible refine wbd (by assumption) ?_ | with_reducible refine wlen (by assumption) ?_ | (refine wat hp5 hk fun a ea => ?_) | with_reducible refine wadd1 (by omega) ?_ | with_reducible refine wlssT (by omega) ?_ | with_reducible refine weqlF (by omega) ?_ | dsimp only)
        exact next _ _ (Nat.lt_succ_self _) ⟨k + 1, 3 - T, _, acc, q4, q6, h7, rfl, by omega, by omega, hT', hps2, hS2, hpt, hsl, ⟨_, _, k7.1, oA7, oB7⟩, k07⟩

end Go.Proofs.YtpaehbfknlpkbadDoor

/- The exact laws of chapter 11 over what the program's functions are asked to compute. -/
set_option maxRecDepth 20000
namespace Go.Proofs.YtpaehbfknlpkbadDoor
open Go Go.Ip G

def EndOfOk (g : Nat → PV) (lf : Nat) : Prop := ∀ (N : Nat), 44 ≤ N → ∀ (r c : Int) {ms : List Int} {p : PV} {h : PHeap}, TabOk g h → IntSl .i64 h p ms → ms.length ≤ 2 ^ 35 → ms.length < lf →
  ∃ q h', CL g lf N fn_impl_EndOf [.int .i64 r, .int .i64 c, p] h = some (.tup [q, .int .i64 (recTurn r c ms)], h') ∧ OwnSl h.length h' q (recEnd r c ms) ∧ Keep h.length h h'
def RecordTextOk (g : Nat → PV) (lf : Nat) : Prop := ∀ (N : Nat), 44 ≤ N → ∀ (r c : Int) {ms : List Int} {p : PV} {h : PHeap}, TabOk g h → IntSl .i64 h p ms → ms.length ≤ 2 ^ 35 → ms.length < lf →
  ∃ h', CL g lf N fn_impl_RecordText [.int .i64 r, .int .i64 c, p] h = some (.str (sB (recT r c ms)), h') ∧ Keep h.length h h'
def ReadRecordOk (g : Nat → PV) (lf : Nat) : Prop := ∀ (N : Nat), 44 ≤ N → ∀ (s : List UInt8) {h : PHeap}, TabOk g h → s.length ≤ 1048577 →
  ∃ q h', CL g lf N fn_impl_ReadRecord [.str (sB s)] h = some (.tup [.int .i64 ((readR s).getD (0, 0, [])).1, .int .i64 ((readR s).getD (0, 0, [])).2.1, q, .bool (readR s).isSome], h') ∧ OwnSl h.length h' q ((readR s).getD (0, 0, [])).2.2 ∧ Keep h.length h h'
def SlipsOk (g : Nat → PV) (lf : Nat) : Prop := ∀ (N : Nat), 44 ≤ N → ∀ (r c : Int) {ms : List Int} {p : PV} {h : PHeap}, TabOk g h → IntSl .i64 h p ms → ms.length ≤ 2 ^ 35 → ms.length < lf →
  ∃ q h', CL g lf N fn_impl_SlipsOf [.int .i64 r, .int .i64 c, p] h = some (q, h') ∧ OwnSl h.length h' q (slipsL r c ms) ∧ Keep h.length h h'
theorem recEnd_length (r c : Int) (ms : List Int) : (recEnd r c ms).length ≤ 9 := by
  unfold recEnd
  split
  · rename_i hb
    cases hp : playTo r c (startL r c) 1 ms with
    | none => simp
    | some ys =>
      obtain ⟨R, C, rfl, rfl, hB⟩ := boardB_nat hb
      have := hB.2.2.2.2
      rw [Option.getD_some, playTo_length _ _ _ _ _ _ hp, start_nat, List.length_replicate]; exact this
  · simp
theorem slipsL_length (r c : Int) (ms : List Int) : (slipsL r c ms).length ≤ 9 := by
  unfold slipsL
  split
  · rename_i h
    exact Nat.le_trans (slipsF_bounds r c ms _ _ _).2.2 (rec_length h.1).2
  · simp
theorem readR_length (s : List UInt8) : (((readR s).getD (0, 0, [])).2.2).length ≤ 9 := by
  cases h : readR s with
  | none => simp
  | some q => exact (rec_length (readR_some.1 h).1).2
section
variable {Q : PV → PHeap → Prop} {P : Program} {t : TypeId} {a : List UInt8} {f : PV → Res}
theorem wsneS (hf : W (f (.bool false)) Q) : W ((binP P .neq t (.str (sB a)) (.str (sB a))).bind f) Q := wsneF rfl hf
end

variable (g : Nat → PV) (lf n : Nat)

/-- Of two functions that make one list of numbers, and more besides. -/
theorem exact_chain5 {L : List Int} {h : PHeap} (N : Nat) (hN : 1 ≤ N) (fS fI : PHeap → PV → PHeap → Prop)
    (hS : ∀ hh, Keep h.length h hh → ∃ w h', fS hh w h' ∧ OwnSl hh.length h' w L ∧ Keep hh.length hh h')
    (hI : ∀ hh, Keep h.length h hh → ∃ w h', fI hh w h' ∧ OwnSl hh.length h' w L ∧ Keep hh.length hh h')
    (hL : L.length ≤ 1048576) (hf : 1048576 < lf) :
    ∃ w h2 g0 h4 h7 g1 h9, fS h w h2 ∧ fI h2 g0 h4 ∧ CL g lf N fn_laws_eqIntS [g0, w] h4 = some (.bool true, h4) ∧
      CL g lf N fn_laws_markIntS [g0, .int .i64 1] h4 = some (.int .i64 (1 + L.length), h7) ∧ CL g lf N fn_laws_heldIntS [g0, .int .i64 1] h7 = some (.int .i64 (1 + L.length), h7) ∧
      fI h7 g1 h9 ∧ CL g lf N fn_laws_eqIntS [g1, w] h9 = some (.bool true, h9) ∧ CL g lf N fn_laws_heldIntS [g0, .int .i64 1] h9 = some (.int .i64 (1 + L.length), h9) := by
  obtain ⟨n, rfl⟩ : ∃ n, N = n + 1 := ⟨N - 1, by omega⟩
  obtain ⟨w, h2, e2, ow, k2⟩ := hS h (Keep.refl _ _)
  obtain ⟨g0, h4, e4, og, k4⟩ := hI h2 k2
  have K4 : Keep h.length h h4 := k2.trans (k4.mono k2.1)
  have w2 := ow.b
  have w4 := w2.keep k4
  have g4 := og.b
  have s4 := eqIntS_calls g lf n og.int w4.int (by omega) (by omega)
  obtain ⟨h7, e7, g7, t7⟩ := markIntS_calls g lf (n + 1) (by omega) g4 (by omega) (by omega)
  have K7 : Keep h.length h h7 := K4.trans (t7.keep.mono k2.1)
  have w7 := w4.only t7 (.inl (Nat.le_refl _))
  have s7 := heldIntS_calls g lf (n + 1) (by omega) g7.int (by omega) (by omega)
  obtain ⟨g1, h9, e9, o9, k9⟩ := hI h7 K7
  have len7 : h4.length ≤ h7.length := by rw [t7.1]; exact Nat.le_refl _
  have w9 := w7.keep (k9.mono (Nat.le_trans k4.1 len7))
  have g9 := g7.keep (k9.mono len7)
  have s9 := eqIntS_calls g lf n o9.int w9.int (by omega) (by omega)
  have s10 := heldIntS_calls g lf (n + 1) (by omega) g9.int (by omega) (by omega)
  simp only [decide_true] at s4 s9
  exact ⟨w, h2, g0, h4, h7, g1, h9, e2, e4, s4, e7, s7, e9, s9, s10⟩

theorem exactRecordText_calls (hok : RecordTextOk g lf) {xs : List Int} {p : PV} {h : PHeap} (N : Nat) (hN : 48 ≤ N) (r c : Int) (ht : TabOk g h) (hp : IntSl .i64 h p xs) (hf : 1048576 < lf) :
    ∃ h', CL g lf N fn_laws_FnExactRecordText [.int .i64 r, .int .i64 c, p] h = some (.bool true, h') := by
  obtain ⟨n, rfl⟩ : ∃ n, N = n + 1 := ⟨N - 1, by omega⟩
  apply W.yes
  rw [laws_FnExactRecordText.call_eq]
  unfold laws_FnExactRecordText.main
  simp only [env_C, env_bin, env_un, env_len]
  have hlen := hp.len'
  by_cases hbig : (1048576 : Int) < (xs.length : Int)
  · repeat (first | with_reducible refine wT ?_ | with_reducible refine wrB ?_ | with_reducible refine wbd (by assumption) ?_ | with_reducible refine wgtrT (by omega) ?_)
    exact W.ret rfl
  · obtain ⟨q1, h1, e1, o1, k1⟩ := toIntS_calls g lf n (by omega) hp (by omega) (by omega)
    obtain ⟨v2, h2, e2, hv2, k2⟩ := specRecordText_W g lf (by omega) r c o1.int n (by omega)
    subst hv2
    have K2 : Keep h.length h h2 := k1.trans (k2.mono k1.1)
    obtain ⟨q3, h3, e3, o3, k3⟩ := toIntS_calls g lf n (by omega) (hp.keep K2) (by omega) (by omega)
    have K3 : Keep h.length h h3 := K2.trans (k3.mono K2.1)
    obtain ⟨h4, e4, k4⟩ := hok n (by omega) r c (ht.keep K3) o3.int (by omega) (by omega)
    have K4 : Keep h.length h h4 := K3.trans (k4.mono K3.1)
    obtain ⟨q5, h5, e5, o5, k5⟩ := toIntS_calls g lf n (by omega) (hp.keep K4) (by omega) (by omega)
    have e6 := eqIntS_N g lf n (by omega) ((o3.keep k4).keep k5).int o5.int (by omega) (by omega)
    rw [decide_eq_true rfl] at e6
    repeat (first | with_reducible refine wF ?_ | with_reducible refine wnT ?_ | with_reducible refine wrB ?_ | with_reducible refine wbd (by assumption) ?_ | (with_reducible refine wsneS ?_) | with_reducible refine wgtrF (by omega) ?_ | dsimp only)
    exact W.ret rfl

theorem exactEndOf_calls (hok : EndOfOk g lf) {xs : List Int} {p : PV} {h : PHeap} (N : Nat) (hN : 48 ≤ N) (r c : Int) (ht : TabOk g h) (hp : IntSl .i64 h p xs) (hf : 1048576 < lf) :
    ∃ h', CL g lf N fn_laws_FnExactEndOf [.int .i64 r, .int .i64 c, p] h = some (.bool true, h') := by
  obtain ⟨n, rfl⟩ : ∃ n, N = n + 1 := ⟨N - 1, by omega⟩
  apply W.yes
  rw [laws_FnExactEndOf.call_eq]
  unfold laws_FnExactEndOf.main
  simp only [env_C, env_pick, env_bin, env_un, env_extract, env_len]
  have hlen := hp.len'
  by_cases hbig : (1048576 : Int) < (xs.length : Int)
  · repeat (first | with_reducible refine wT ?_ | with_reducible refine wrB ?_ | with_reducible refine wbd (by assumption) ?_ | with_reducible refine wgtrT (by omega) ?_)
    exact W.ret rfl
  · have hL := recEnd_length r c xs
    obtain ⟨q1, h1, w, h2, q3, h3, g0, h4, y, h5, h6, h7, q8, h8, g1, h9, e1, e2, e3, e4, e5, e6, e7, e8, e9, e10, e11, e12, e13, e14, e15⟩ := exact_chain3 g lf n (by omega)
      (fun q h w h' => CL g lf n fn_spec_EndOf [.int .i64 r, .int .i64 c, q] h = some (.tup [w, .int .i64 (recTurn r c xs)], h')) (fun q h w h' => CL g lf n fn_impl_EndOf [.int .i64 r, .int .i64 c, q] h = some (.tup [w, .int .i64 (recTurn r c xs)], h'))
      (fun q hh _ hq => by
        obtain ⟨v, h', e, q', hv, o, k⟩ := specEndOf_W g lf (by omega) r c hq n (by omega)
        subst hv; exact ⟨q', h', e, o, k⟩) (fun q hh hk hq => hok n (by omega) r c (ht.keep hk) hq (by omega) (by omega)) hp (by omega) (by omega) hf
    repeat (first | with_reducible refine wF ?_ | with_reducible refine wg1 rfl ?_ | with_reducible refine wpF ?_ | with_reducible refine wnT ?_ | with_reducible refine wpv ?_ | with_reducible refine wsm ?_ | with_reducible refine wrB ?_ | with_reducible refine wx0 ?_ | with_reducible refine wx1 ?_ | with_reducible refine wbd (by assumption) ?_ | with_reducible refine wlssF (by omega) ?_ | with_reducible refine wgtrF (by omega) ?_ | with_reducible refine wneqF (by omega) ?_ | dsimp only)
    exact W.ret rfl

theorem exactSlipsOf_calls (hok : SlipsOk g lf) {xs : List Int} {p : PV} {h : PHeap} (N : Nat) (hN : 48 ≤ N) (r c : Int) (ht : TabOk g h) (hp : IntSl .i64 h p xs) (hf : 1048576 < lf) :
    ∃ h', CL g lf N fn_laws_FnExactSlipsOf [.int .i64 r, .int .i64 c, p] h = some (.bool true, h') := by
  obtain ⟨n, rfl⟩ : ∃ n, N = n + 1 := ⟨N - 1, by omega⟩
  apply W.yes
  rw [laws_FnExactSlipsOf.call_eq]
  unfold laws_FnExactSlipsOf.main
  simp only [env_C, env_pick, env_bin, env_un, env_len]
  have hlen := hp.len'
  by_cases hbig : (1048576 : Int) < (xs.length : Int)
  · repeat (first | with_reducible refine wT ?_ | with_reducible refine wrB ?_ | with_reducible refine wbd (by assumption) ?_ | with_reducible refine wgtrT (by omega) ?_)
    exact W.ret rfl
  · have hL := slipsL_length r c xs
    obtain ⟨q1, h1, w, h2, q3, h3, g0, h4, y, h5, h6, h7, q8, h8, g1, h9, e1, e2, e3, e4, e5, e6, e7, e8, e9, e10, e11, e12, e13, e14, e15⟩ := exact_chain3 g lf n (by omega)
      (fun q h w h' => CL g lf n fn_spec_SlipsOf [.int .i64 r, .int .i64 c, q] h = some (w, h')) (fun q h w h' => CL g lf n fn_impl_SlipsOf [.int .i64 r, .int .i64 c, q] h = some (w, h'))
      (fun q hh _ hq => by
        obtain ⟨v, h', e, o, k⟩ := specSlipsOf_W g lf (by omega) r c hq n (by omega)
        exact ⟨v, h', e, o, k⟩) (fun q hh hk hq => hok n (by omega) r c (ht.keep hk) hq (by omega) (by omega)) hp (by omega) (by omega) hf
    repeat (first | with_reducible refine wF ?_ | with_reducible refine wg1 rfl ?_ | with_reducible refine wpF ?_ | with_reducible refine wnT ?_ | with_reducible refine wpv ?_ | with_reducible refine wsm ?_ | with_reducible refine wrB ?_ | with_reducible refine wbd (by assumption) ?_ | with_reducible refine wlssF (by omega) ?_ | with_reducible refine wgtrF (by omega) ?_ | with_reducible refine wneqF (by omega) ?_ | dsimp only)
    exact W.ret rfl

theorem exactReadRecord_calls (hok : ReadRecordOk g lf) {h : PHeap} (N : Nat) (hN : 48 ≤ N) (s : List UInt8) (ht : TabOk g h) (hf : 1048580 < lf) :
    ∃ h', CL g lf N fn_laws_FnExactReadRecord [.str (sB s)] h = some (.bool true, h') := by
  obtain ⟨n, rfl⟩ : ∃ n, N = n + 1 := ⟨N - 1, by omega⟩
  apply W.yes
  rw [laws_FnExactReadRecord.call_eq]
  unfold laws_FnExactReadRecord.main
  simp only [env_C, env_pick, env_bin, env_un, env_extract, env_len]
  refine wslen ?_
  by_cases hbig : (1048576 : Int) < (s.length : Int)
  · repeat (first | with_reducible refine wT ?_ | with_reducible refine wrB ?_ | with_reducible refine wgtrT (by omega) ?_)
    exact W.ret rfl
  · have hL := readR_length s
    obtain ⟨w, h2, g0, h4, h7, g1, h9, e2, e4, s4, e7, s7, e9, s9, s10⟩ := exact_chain5 g lf n (by omega)
      (fun h w h' => CL g lf n fn_spec_ReadRecord [.str (sB s)] h = some (.tup [.int .i64 ((readR s).getD (0, 0, [])).1, .int .i64 ((readR s).getD (0, 0, [])).2.1, w, .bool (readR s).isSome], h')) (fun h w h' => CL g lf n fn_impl_ReadRecord [.str (sB s)] h = some (.tup [.int .i64 ((readR s).getD (0, 0, [])).1, .int .i64 ((readR s).getD (0, 0, [])).2.1, w, .bool (readR s).isSome], h'))
      (fun hh _ => by
        obtain ⟨v, h', e, ⟨q, hv, o⟩, k⟩ := specReadRecord_W g lf (by omega) s (by omega) (by omega) n (by omega) hh
        subst hv; exact ⟨q, h', e, o, k⟩) (fun hh hk => hok n (by omega) s (ht.keep hk) (by omega)) (by omega) (by omega)
    generalize ((readR s).getD (0, 0, [])).1 = A at *
    generalize ((readR s).getD (0, 0, [])).2.1 = B at *
    generalize (readR s).isSome = D at *
    repeat (first | with_reducible refine wF ?_ | with_reducible refine wg1 rfl ?_ | with_reducible refine wpF ?_ | with_reducible refine wnT ?_ | with_reducible refine wpv ?_ | with_reducible refine wsm ?_ | with_reducible refine wrB ?_ | with_reducible refine wx0 ?_ | with_reducible refine wx1 ?_ | with_reducible refine wx2 ?_ | with_reducible refine wx3 ?_ | with_reducible refine wbd (by assumption) ?_ | (with_reducible refine wneqBB ?_) | with_reducible refine wlssF (by omega) ?_ | with_reducible refine wgtrF (by omega) ?_ | with_reducible refine wneqF (by omega) ?_ | dsimp only)
    exact W.ret rfl

end Go.Proofs.YtpaehbfknlpkbadDoor

/- Texts that are cut: where a byte is first, how often it is there, the pieces; the texts of boards, and records that are read. -/
set_option maxRecDepth 20000
namespace Go.Proofs.YtpaehbfknlpkbadDoor
open Go Go.Ip

theorem idx_none {c : UInt8} : ∀ {s : List UInt8}, (∀ x ∈ s, x ≠ c) → Lib.indexByte s c = -1
  | [], _ => rfl
  | b :: l, h => by
    unfold Lib.indexByte
    rw [if_neg (by simpa using h b (List.mem_cons_self ..)), idx_none fun x hx => h x (List.mem_cons_of_mem _ hx)]
    rfl
theorem idx_at {c : UInt8} {rest : List UInt8} : ∀ {w : List UInt8}, (∀ x ∈ w, x ≠ c) → Lib.indexByte (w ++ c :: rest) c = (w.length : Int)
  | [], _ => by
    show Lib.indexByte (c :: rest) c = 0
    unfold Lib.indexByte
    rw [if_pos (by simp)]
  | b :: l, h => by
    have ih := idx_at (rest := rest) (w := l) fun x hx => h x (List.mem_cons_of_mem _ hx)
    show Lib.indexByte (b :: (l ++ c :: rest)) c = _
    unfold Lib.indexByte
    rw [if_neg (by simpa using h b (List.mem_cons_self ..)), ih, if_neg (by rw [beq_iff_eq]; omega), List.length_cons]
    omega
theorem text_cut (c : UInt8) : ∀ s : List UInt8, (∀ x ∈ s, x ≠ c) ∨ ∃ w rest, s = w ++ c :: rest ∧ ∀ x ∈ w, x ≠ c
  | [] => .inl (by simp)
  | b :: l => by
    by_cases hb : b = c
    · exact .inr ⟨[], l, by rw [hb]; rfl, by simp⟩
    · rcases text_cut c l with h | ⟨w, rest, rfl, h⟩
      · refine .inl fun x hx => ?_
        rcases List.mem_cons.1 hx with rfl | hx
        · exact hb
        · exact h x hx
      · refine .inr ⟨b :: w, rest, rfl, fun x hx => ?_⟩
        rcases List.mem_cons.1 hx with rfl | hx
        · exact hb
        · exact h x hx
theorem cut_count (c : UInt8) : ∀ s : List UInt8, (cutL c s).length = Lib.countByte s c + 1
  | [] => rfl
  | b :: l => by
    have ih := cut_count c l
    unfold Lib.countByte at ih ⊢
    rw [cut_cons, List.count_cons]
    by_cases hb : b = c
    · rw [if_pos hb, if_pos (by simpa using hb), List.length_cons, ih]
    · rw [if_neg hb, if_neg (by simpa using hb)]
      cases hc : cutL c l with
      | nil => rw [hc] at ih; simp at ih
      | cons w ws => rw [hc] at ih; simpa using ih
theorem cut_join {c : UInt8} : ∀ {s w : List UInt8} {ws : List (List UInt8)}, cutL c s = w :: ws → s = w ++ ws.flatMap fun v => c :: v
  | [], w, ws, h => by simp [cutL] at h; obtain ⟨rfl, rfl⟩ := h; rfl
  | b :: l, w, ws, h => by
    rw [cut_cons] at h
    by_cases hb : b = c
    · rw [if_pos hb] at h
      obtain ⟨rfl, rfl⟩ := List.cons.inj h
      cases hc : cutL c l with
      | nil => exact absurd hc (cut_some c l)
      | cons v vs =>
        have := cut_join hc
        rw [List.flatMap_cons, List.nil_append, hb, List.cons_append, ← this]
    · rw [if_neg hb] at h
      cases hc : cutL c l with
      | nil => exact absurd hc (cut_some c l)
      | cons v vs =>
        rw [hc] at h
        obtain ⟨rfl, rfl⟩ := List.cons.inj h
        rw [List.cons_append, ← cut_join hc]
theorem count_le (c : UInt8) (s : List UInt8) : Lib.countByte s c ≤ s.length := List.count_le_length ..

/-! ### texts of boards -/
def boardT (r c : Int) : List UInt8 := [UInt8.ofNat (48 + r.toNat), 120, UInt8.ofNat (48 + c.toNat)]
theorem boardT_no {r c : Int} (hb : boardB r c = true) : ∀ x ∈ boardT r c, x ≠ 58 := by
  obtain ⟨R, C, rfl, rfl, b1, b2, b3, b4, _⟩ := boardB_nat hb
  intro x hx
  simp only [boardT, Int.toNat_natCast, List.mem_cons, List.not_mem_nil, or_false] at hx
  rcases hx with rfl | rfl | rfl
  · exact u8_ne (b := 58) (by omega) (by omega) (by omega)
  · decide
  · exact u8_ne (b := 58) (by omega) (by omega) (by omega)
theorem boardT_inj {r c r' c' : Int} (hb : boardB r c = true) (hb' : boardB r' c' = true) (h : boardT r c = boardT r' c') : r = r' ∧ c = c' := by
  obtain ⟨R, C, rfl, rfl, b1, b2, b3, b4, _⟩ := boardB_nat hb
  obtain ⟨R', C', rfl, rfl, d1, d2, d3, d4, _⟩ := boardB_nat hb'
  simp only [boardT, Int.toNat_natCast, List.cons.injEq, and_true, true_and] at h
  have h1 := u8_inj (by omega) (by omega) h.1
  have h2 := u8_inj (by omega) (by omega) h.2
  omega
theorem recTx_board (r c : Int) (ms : List Int) : recTx r c ms = boardT r c ++ 58 :: ms.flatMap fun m => 32 :: nameL c.toNat m.toNat := rfl
theorem cut_same {c : UInt8} {a b x y : List UInt8} (ha : ∀ z ∈ a, z ≠ c) (hb : ∀ z ∈ b, z ≠ c) (h : a ++ c :: x = b ++ c :: y) : a = b ∧ x = y := by
  have h1 := idx_at (rest := x) ha
  rw [h, idx_at hb] at h1
  obtain ⟨e1, e2⟩ := List.append_inj h (by omega)
  exact ⟨e1, (List.cons.inj e2).2⟩

/-- What a text is like that a record is read from. -/
theorem readR_shape {s : List UInt8} {r c : Int} {ms : List Int} (h : readR s = some (r, c, ms)) : boardB r c = true ∧ recB r c ms = true ∧ ∃ names, s = boardT r c ++ 58 :: names ∧
    cutL 32 names = [] :: ms.map (fun m => nameL c.toNat m.toNat) ∧ readM r c (ms.map fun m => nameL c.toNat m.toNat) = some ms := by
  obtain ⟨h1, h2⟩ := readR_some.1 h
  simp only at h1 h2
  have hb := rec_board h1
  have hcs := rec_cells h1
  refine ⟨hb, h1, _, h2.symm.trans (recTx_board r c ms), ?_, ?_⟩
  · obtain ⟨R, C, rfl, rfl, hB⟩ := boardB_nat hb
    obtain ⟨b1, b2, b3, b4, b9⟩ := id hB
    have := cut_names (c := C) (by omega) (by omega) ms [] (by simp) (rec_small h1)
    simpa using this
  · obtain ⟨R, C, rfl, rfl, hB⟩ := boardB_nat hb
    have := readM_names hB hb ms fun m hm => by
      obtain ⟨k, e, hk⟩ := hcs m hm
      rw [← Int.natCast_mul] at hk
      exact ⟨k, e, by omega⟩
    simpa using this
theorem readM_ws {r c : Int} (hb : boardB r c = true) : ∀ {ws : List (List UInt8)} {ms : List Int}, readM r c ws = some ms → ws = ms.map fun m => nameL c.toNat m.toNat
  | [], ms, h => by simp only [readM, Option.some.injEq] at h; subst h; rfl
  | w :: ws, ms, h => by
    rw [readM] at h
    cases hi : readI r c w with
    | none => rw [hi] at h; cases h
    | some k =>
      rw [hi] at h
      simp only [Option.map_eq_some_iff] at h
      obtain ⟨l, hl, rfl⟩ := h
      obtain ⟨_, hk, hc⟩ := readI_some hi
      obtain ⟨R, C, rfl, rfl, hB⟩ := boardB_nat hb
      rw [← Int.natCast_mul, Int.toNat_natCast] at hk
      rw [cellT_in hB hb hk] at hc
      rw [List.map_cons, ← readM_ws hb hl, ← hc]
      rfl
theorem readR_no {s : List UInt8} (h : ∀ x ∈ s, x ≠ 58) : readR s = none := by
  cases hr : readR s with
  | none => rfl
  | some q =>
    obtain ⟨r, c, ms⟩ := q
    obtain ⟨_, _, names, e, _⟩ := readR_shape hr
    exact absurd rfl (h 58 (by rw [e]; simp))
theorem readR_noboard {b names : List UInt8} (h : ∀ x ∈ b, x ≠ 58) (hn : ∀ r c, boardB r c = true → boardT r c ≠ b) : readR (b ++ 58 :: names) = none := by
  cases hr : readR (b ++ 58 :: names) with
  | none => rfl
  | some q =>
    obtain ⟨r, c, ms⟩ := q
    obtain ⟨hb, _, names', e, _⟩ := readR_shape hr
    exact absurd (cut_same h (boardT_no hb) e).1.symm (hn r c hb)
/-- A record that is read behind the text of a board. -/
theorem readR_board {r c : Int} {names : List UInt8} (hb : boardB r c = true) : readR (boardT r c ++ 58 :: names) =
    match cutL 32 names with
    | [] :: ws => (match readM r c ws with | some ms => if recB r c ms = true then some (r, c, ms) else none | none => none)
    | _ => none := by
  have key : ∀ {q}, readR (boardT r c ++ 58 :: names) = some q → ∃ ms, q = (r, c, ms) ∧ recB r c ms = true ∧ cutL 32 names = [] :: ms.map (fun m => nameL c.toNat m.toNat) ∧ readM r c (ms.map fun m => nameL c.toNat m.toNat) = some ms := by
    intro q hr
    obtain ⟨r', c', ms⟩ := q
    obtain ⟨hb', h1, names', e, h2, h3⟩ := readR_shape hr
    obtain ⟨e1, rfl⟩ := cut_same (boardT_no hb) (boardT_no hb') e
    obtain ⟨rfl, rfl⟩ := boardT_inj hb hb' e1
    exact ⟨ms, rfl, h1, h2, h3⟩
  cases hc : cutL 32 names with
  | nil => exact absurd hc (cut_some 32 names)
  | cons w ws =>
    cases w with
    | cons x w =>
      cases hr : readR (boardT r c ++ 58 :: names) with
      | none => rfl
      | some q =>
        obtain ⟨ms, _, _, h2, _⟩ := key hr
        rw [hc] at h2; cases h2
    | nil =>
      simp only
      cases hm : readM r c ws with
      | none =>
        cases hr : readR (boardT r c ++ 58 :: names) with
        | none => rfl
        | some q =>
          obtain ⟨ms, _, _, h2, h3⟩ := key hr
          rw [hc] at h2
          rw [← (List.cons.inj h2).2, hm] at h3; cases h3
      | some ms =>
        simp only
        cases hrec : recB r c ms with
        | true =>
          rw [if_pos rfl]
          refine readR_some.2 ⟨hrec, ?_⟩
          show recTx r c ms = _
          rw [recTx_board]
          have hj := cut_join hc
          rw [readM_ws hb hm, List.nil_append, List.flatMap_map] at hj
          rw [hj]
        | false =>
          rw [if_neg (by simp)]
          cases hr : readR (boardT r c ++ 58 :: names) with
          | none => rfl
          | some q =>
            obtain ⟨ms', _, h1, h2, h3⟩ := key hr
            rw [hc] at h2
            rw [← (List.cons.inj h2).2, hm] at h3
            obtain rfl := Option.some.inj h3
            rw [hrec] at h1; cases h1

/-- What the moves of a text are. -/
def movesO (r c : Int) (s : List UInt8) : Option (List Int) := match cutL 32 s with | [] :: ws => readM r c ws | _ => none
theorem readR_moves {r c : Int} {names : List UInt8} (hb : boardB r c = true) : readR (boardT r c ++ 58 :: names) = (movesO r c names).bind fun ms => if recB r c ms = true then some (r, c, ms) else none := by
  rw [readR_board hb]
  unfold movesO
  cases hc : cutL 32 names with
  | nil => rfl
  | cons w ws =>
    cases w with
    | nil =>
      simp only
      cases readM r c ws <;> rfl
    | cons x w => rfl

end Go.Proofs.YtpaehbfknlpkbadDoor

/- The program's chapter 2: Joins, GapOf, GroupOf, Filled and GapCells compute what the model's do. -/
set_option maxRecDepth 20000
namespace Go.Proofs.YtpaehbfknlpkbadDoor
open Go Go.Ip G

variable (g : Nat → PV) (lf n : Nat)

theorem joinsOk (hlf : 1000 < lf) : JoinsOk g lf := by
  intro N hN r c pl xs p h ht hp hl hf
  obtain ⟨n, rfl⟩ : ∃ n, N = n + 1 := ⟨N - 1, by omega⟩
  have ht' : Tab g h := ht.1
  have hpos := positionOk_N g lf n (by omega) r c hp (by omega) hf
  have hplay := playerOk_W g lf n (by omega) h pl
  have : W (CL g lf (n + 1) fn_impl_Joins [.int .i64 r, .int .i64 c, p, .int .i64 pl] h) fun v h' => v = .bool (joinsL r c xs pl) ∧ Keep h.length h h' := by
    rw [impl_Joins.call_eq]
    unfold impl_Joins.main
    simp only [env_C, env_pick, env_bin, env_un, env_extract]
    unfold joinsL
    cases hb : posB r c xs with
    | false =>
      rw [hb] at hpos
      repeat (first | with_reducible refine wT ?_ | with_reducible refine wg0 rfl ?_ | with_reducible refine wpT ?_ | with_reducible refine wnF ?_ | with_reducible refine wsm ?_ | with_reducible refine wrB ?_ | with_reducible refine wbd (by assumption) ?_ | dsimp only)
      exact W.ret ⟨rfl, Keep.refl _ _⟩
    | true =>
      rw [hb] at hpos
      cases hpl : playerB pl with
      | false =>
        rw [hpl] at hplay
        repeat (first | with_reducible refine wT ?_ | with_reducible refine wg1 rfl ?_ | with_reducible refine wpF ?_ | with_reducible refine wnT ?_ | with_reducible refine wnF ?_ | with_reducible refine wpv ?_ | with_reducible refine wsm ?_ | with_reducible refine wrB ?_ | with_reducible refine wbd (by assumption) ?_ | dsimp only)
        exact W.ret ⟨rfl, Keep.refl _ _⟩
      | true =>
        rw [hpl] at hplay
        obtain ⟨R, C, hS⟩ := sides_of hb
        obtain ⟨P, rfl, hP⟩ := player_of hpl
        have hB := board_of_sides hS
        obtain ⟨rfl, rfl, _, _, _, _, h9, hlen, _⟩ := id hS
        have hst := set_lt9 hS (P : Int)
        have e1 := sidesOf_W g lf hB hP n (by omega) hlf h
        have e2 := setOf_W g lf (P : Int) hp (by omega) n (by omega) hlf
        have s1 := sideN_lt (P := P) (last := false) hB
        have s2 := sideN_lt (P := P) (last := true) hB
        have a1 : sideN R C P false &&& setL xs (P : Int) < 2 ^ 9 := Nat.and_lt_two_pow _ hst
        obtain ⟨h1, e3, k1⟩ := grown_W g lf hB a1 hst n (by omega) hlf ht'
        rw [grown_in] at e3
        have hgl := grow_lt (M := masksN R C) (fr := sideN R C P false) hst
        have hgl2 : growN (masksN R C) (setL xs (P : Int)) (sideN R C P false) &&& sideN R C P true < 2 ^ 9 := Nat.and_lt_two_pow _ s2
        repeat (first | with_reducible refine wF ?_ | with_reducible refine wg1 rfl ?_ | with_reducible refine wpF ?_ | with_reducible refine wnT ?_ | with_reducible refine wpv ?_ | with_reducible refine wsm ?_ | with_reducible refine wx0 ?_ | with_reducible refine wx1 ?_ | with_reducible refine wbd (by assumption) ?_ | with_reducible refine wand (by omega) (by omega) ?_ | dsimp only)
        show W _ fun v h' => v = .bool (true && true && joinsN R C P (setL xs (P : Int))) ∧ Keep h.length h h'
        unfold joinsN
        refine wneq (fun e => ?_) (fun e => ?_)
        · repeat (first | with_reducible refine wrB ?_)
          refine W.ret ⟨?_, k1⟩
          rw [decide_eq_false (by omega)]; rfl
        · repeat (first | with_reducible refine wrB ?_)
          refine W.ret ⟨?_, k1⟩
          rw [decide_eq_true (by omega)]; rfl
  obtain ⟨_, h', e, rfl, k⟩ := this
  exact ⟨h', e, k⟩

end Go.Proofs.YtpaehbfknlpkbadDoor

/- The least cell of a set, as the library finds it by its table of 64 bytes; and comparing a slice with nil, copying it. -/
set_option maxRecDepth 20000
namespace Go.Proofs.YtpaehbfknlpkbadDoor
open Go Go.Ip G

/-- The least number in a set of nine; nine if there is none. -/
def lowN (x : Nat) : Nat := ((List.range 9).find? fun k => x.testBit k).getD 9
def lsB (x : Nat) : Bool := x.testBit (lowN x) && decide (lowN x < 9) && (List.range (lowN x)).all (fun j => !x.testBit j) && (x &&& (x - 1) == without x (lowN x))
theorem ls_all : ((List.range 512).all fun x => x == 0 || lsB x) = true := by kernel_rfl
theorem low_ok {x : Nat} (hx : x < 2 ^ 9) (h0 : x ≠ 0) : x.testBit (lowN x) = true ∧ lowN x < 9 ∧ (∀ j, j < lowN x → x.testBit j = false) ∧ x &&& (x - 1) = without x (lowN x) := by
  have h := List.all_eq_true.1 ls_all x (List.mem_range.2 hx)
  have h1 : lsB x = true := by
    rcases Bool.or_eq_true_iff.1 h with h | h
    · exact absurd (by simpa using h) h0
    · exact h
  unfold lsB at h1
  simp only [Bool.and_eq_true, decide_eq_true_eq, beq_iff_eq] at h1
  obtain ⟨⟨⟨a, b⟩, c⟩, d⟩ := h1
  exact ⟨a, b, fun j hj => by have := List.all_eq_true.1 c j (List.mem_range.2 hj); simpa using this, d⟩

/-- What the library computes, step by step. -/
def isU (o : Option PV) (a : Nat) : Bool := match o with | some (.int .u64 (.ofNat b)) => b == a | _ => false
theorem isU_eq {o : Option PV} {a : Nat} (h : isU o a = true) : o = some (.int .u64 (a : Int)) := by
  unfold isU at h
  split at h
  · have := beq_iff_eq.1 h; subst this; rfl
  · cases h
def tz5 (x : Nat) : Nat := ((1 <<< lowN x) * 285870213051353865) % 2 ^ 64
def tz6 (x : Nat) : Nat := tz5 x / 2 ^ 58
noncomputable def tzB (x : Nat) : Bool := isU (unP .neg (.int .u64 (x : Int))) (2 ^ 64 - x) && (isU (binP Tryd.prog .and 91 (.int .u64 (x : Int)) (.int .u64 ((2 ^ 64 - x : Nat) : Int))) (1 <<< lowN x) &&
  (isU (binP Tryd.prog .mul 91 (.int .u64 ((1 <<< lowN x : Nat) : Int)) (.int .u64 285870213051353865)) (tz5 x) && (isU (binP Tryd.prog .shr 91 (.int .u64 (tz5 x : Int)) (.int .u64 58)) (tz6 x) && tab64N[tz6 x]? == some (lowN x))))
theorem tz_all : ((List.range 512).all fun x => x == 0 || tzB x) = true := by kernel_rfl
theorem tz_one {x : Nat} (hx : x < 2 ^ 9) (h0 : x ≠ 0) : tzB x = true := by
  have h := List.all_eq_true.1 tz_all x (List.mem_range.2 hx)
  rcases Bool.or_eq_true_iff.1 h with h | h
  · exact absurd (beq_iff_eq.1 h) h0
  · exact h
theorem tz_steps {x : Nat} (hx : x < 2 ^ 9) (h0 : x ≠ 0) : ∃ v3 v4 v5, ∃ i : Nat, unP .neg (.int .u64 (x : Int)) = some v3 ∧ binP Tryd.prog .and 91 (.int .u64 (x : Int)) v3 = some v4 ∧ binP Tryd.prog .mul 91 v4 (.int .u64 285870213051353865) = some v5 ∧
    binP Tryd.prog .shr 91 v5 (.int .u64 58) = some (.int .u64 (i : Int)) ∧ tab64N[i]? = some (lowN x) := by
  have h1 := tz_one hx h0
  unfold tzB at h1
  obtain ⟨a, h1⟩ := Bool.and_eq_true_iff.1 h1
  obtain ⟨b, h1⟩ := Bool.and_eq_true_iff.1 h1
  obtain ⟨c, h1⟩ := Bool.and_eq_true_iff.1 h1
  obtain ⟨d, h1⟩ := Bool.and_eq_true_iff.1 h1
  exact ⟨_, _, _, _, isU_eq a, isU_eq b, isU_eq c, isU_eq d, beq_iff_eq.1 h1⟩

theorem tyTzU : Tryd.prog.underlying 106 = some (.array 64 5) := by kernel_rfl
theorem tyTz1 : sizeT Tryd.prog 5 = some 1 := by kernel_rfl
theorem tyTzA : isAggT Tryd.prog 5 = some false := by kernel_rfl
theorem tzConv (l : Nat) (hl : l < 9) : convP Tryd.prog 5 3 (.int .u8 (l : Int)) = some (.int .i64 (l : Int)) := by
  have : convP Tryd.prog 5 3 (.int .u8 (l : Int)) = some (.int .i64 (IntKind.i64.wrap (l : Int))) := by kernel_rfl
  rw [this, wr (by omega)]
theorem tzConv2 (x : Nat) (hx : x < 2 ^ 9) : convP Tryd.prog 3 83 (.int .i64 (x : Int)) = some (.int .u64 (x : Int)) := by
  have : convP Tryd.prog 3 83 (.int .i64 (x : Int)) = some (.int .u64 (IntKind.u64.wrap (x : Int))) := by kernel_rfl
  rw [this]
  have : IntKind.u64.wrap (x : Int) = (x : Int) := by unfold IntKind.wrap; simp [IntKind.bits, IntKind.signed]; omega
  rw [this]

variable (g : Nat → PV) (lf n : Nat)

/-- The library's table is known to lie somewhere. -/
def Big (g : Nat → PV) : Prop := ∃ id, g 4 = .ptr id 0

theorem tz64_W {x : Nat} (hx : x < 2 ^ 9) (h0 : x ≠ 0) (hb : Big g) {h : PHeap} (ht : Tab64 g h) (N : Nat) (hN : 1 ≤ N) : CL g lf N fn_bits_TrailingZeros64 [.int .u64 (x : Int)] h = some (.int .i64 (lowN x : Int), h) := by
  obtain ⟨n, rfl⟩ : ∃ n, N = n + 1 := ⟨N - 1, by omega⟩
  obtain ⟨id, hg⟩ := hb
  have ho := ht id hg
  obtain ⟨v3, v4, v5, i, e3, e4, e5, e6, hi⟩ := tz_steps hx h0
  have hi64 : i < 64 := (List.getElem?_eq_some_iff.1 hi).1
  have e7 : indexAddrP Tryd.prog 106 (.ptr id 0) (.int .u64 (i : Int)) = some (.ptr id i) := by simp [indexAddrP, tyTzU, tyTz1]; omega
  have e8 : loadP Tryd.prog 5 (.ptr id i) h = some (.int .u8 (lowN x : Int)) := by
    simp [loadP, tyTzA, cellsAt, ho, PObj.get, tab64Cells, hi]
  have e9 := tzConv (lowN x) (low_ok hx h0).2.1
  have : W (CL g lf (n + 1) fn_bits_TrailingZeros64 [.int .u64 (x : Int)] h) fun v h' => v = .int .i64 (lowN x : Int) ∧ h' = h := by
    rw [bits_TrailingZeros64.call_eq]
    unfold bits_TrailingZeros64.main
    simp only [env_g, env_load, env_bin, env_un, env_conv, env_indexAddr]
    refine weqlF (by omega) ?_
    rw [hg]
    repeat (first | with_reducible refine wF ?_ | with_reducible refine wrI ?_ | with_reducible refine wbd (by assumption) ?_)
    exact W.ret ⟨rfl, rfl⟩
  obtain ⟨_, _, e, rfl, rfl⟩ := this
  exact e

theorem leastIn_W {x : Nat} (hx : x < 2 ^ 9) (h0 : x ≠ 0) (hb : Big g) {h : PHeap} (ht : Tab64 g h) (N : Nat) (hN : 3 ≤ N) : CL g lf N fn_impl_leastIn [.int .i64 (x : Int)] h = some (.int .i64 (lowN x : Int), h) := by
  obtain ⟨n, rfl⟩ : ∃ n, N = n + 1 := ⟨N - 1, by omega⟩
  obtain ⟨n, rfl⟩ : ∃ m, n = m + 1 := ⟨n - 1, by omega⟩
  have e1 := tzConv2 x hx
  have e2 := tz64_W g lf hx h0 hb ht n (by omega)
  have e3 : CL g lf (n + 1) fn_bits_TrailingZeros [.int .u64 (x : Int)] h = some (.int .i64 (lowN x : Int), h) := by
    have : W (CL g lf (n + 1) fn_bits_TrailingZeros [.int .u64 (x : Int)] h) fun v h' => v = .int .i64 (lowN x : Int) ∧ h' = h := by
      rw [bits_TrailingZeros.call_eq]
      unfold bits_TrailingZeros.main
      simp only [env_C, env_conv]
      repeat (first | with_reducible refine wF ?_ | with_reducible refine wrI ?_ | with_reducible refine wbd (by assumption) ?_ | dsimp only)
      exact W.ret ⟨rfl, rfl⟩
    obtain ⟨_, _, e, rfl, rfl⟩ := this
    exact e
  have : W (CL g lf (n + 1 + 1) fn_impl_leastIn [.int .i64 (x : Int)] h) fun v h' => v = .int .i64 (lowN x : Int) ∧ h' = h := by
    rw [impl_leastIn.call_eq]
    unfold impl_leastIn.main
    simp only [env_C, env_conv]
    repeat (first | with_reducible refine wrI ?_ | with_reducible refine wbd (by assumption) ?_ | dsimp only)
    exact W.ret ⟨rfl, rfl⟩
  obtain ⟨_, _, e, rfl, rfl⟩ := this
  exact e

/-- What a set loses with its least cell. -/
theorem f_drop {x : Nat} (hx : x < 2 ^ 9) (h0 : x ≠ 0) : binP Tryd.prog .sub 3 (.int .i64 (x : Int)) (.int .i64 1) = some (.int .i64 ((x - 1 : Nat) : Int)) ∧ binP Tryd.prog .and 3 (.int .i64 (x : Int)) (.int .i64 ((x - 1 : Nat) : Int)) = some (.int .i64 (without x (lowN x) : Int)) := by
  refine ⟨by rw [bin_sub, wr (by omega), show (x : Int) - 1 = ((x - 1 : Nat) : Int) by omega], ?_⟩
  rw [f_and (by omega) (by omega), (low_ok hx h0).2.2.2]
theorem without_lt9 {x k : Nat} (hx : x < 2 ^ 9) : without x k < 2 ^ 9 := by rw [← minusN_one]; exact minusN_lt hx
theorem without_less {x : Nat} (hx : x < 2 ^ 9) (h0 : x ≠ 0) : without x (lowN x) < x := by
  have h := (low_ok hx h0).2.2.2
  rw [← h]
  have : x &&& (x - 1) ≤ x - 1 := Nat.and_le_right
  omega

/-! ### slices.Clone -/
theorem tySlB : isSliceT Tryd.prog 22 = true := by kernel_rfl
theorem wnilF {Q : PV → PHeap → Prop} {f : PV → Res} {i o l : Nat} (hf : W (f (.bool false)) Q) : W ((binP Tryd.prog .eql 22 (.sl i o l) .nilsl).bind f) Q := wbd (by simp [binP, tySlB]) hf

end Go.Proofs.YtpaehbfknlpkbadDoor

/- The program's search: structs and a map on the interpreter's heap; the sets' joining; what stands after a move. -/
set_option maxRecDepth 20000
namespace Go.Proofs.YtpaehbfknlpkbadDoor
open Go Go.Ip G

/-! ### objects by themselves, and what keeps all but one -/
def At (h : PHeap) (id : Nat) (l : List PV) : Prop := h[id]? = some (.own 1 l)
theorem At.lt {h : PHeap} {id : Nat} {l : List PV} (a : At h id l) : id < h.length := (List.getElem?_eq_some_iff.1 a).1
/-- All is as it was but the object m, and what is behind. -/
def KB (m : Nat) (h h' : PHeap) : Prop := h.length ≤ h'.length ∧ ∀ i, i < h.length → i ≠ m → h'[i]? = h[i]?
theorem KB.refl (m : Nat) (h : PHeap) : KB m h h := ⟨Nat.le_refl _, fun _ _ _ => rfl⟩
theorem KB.trans {m : Nat} {a b c : PHeap} (h : KB m a b) (k : KB m b c) : KB m a c := ⟨Nat.le_trans h.1 k.1, fun i hi hn => (k.2 i (Nat.lt_of_lt_of_le hi h.1) hn).trans (h.2 i hi hn)⟩
theorem Keep.kb {m : Nat} {a b : PHeap} (h : Keep a.length a b) : KB m a b := ⟨h.1, fun i hi _ => h.2 i hi⟩
theorem KB.keep {m n : Nat} {a b : PHeap} (h : KB m a b) (hm : n ≤ m) (hn : n ≤ a.length) : Keep n a b := ⟨h.1, fun i hi => h.2 i (Nat.lt_of_lt_of_le hi hn) (by omega)⟩
theorem At.keep {h h' : PHeap} {id : Nat} {l : List PV} (a : At h id l) (k : Keep h.length h h') : At h' id l := by unfold At; rw [k.2 id a.lt]; exact a
theorem At.kb {h h' : PHeap} {id m : Nat} {l : List PV} (a : At h id l) (k : KB m h h') (hn : id ≠ m) : At h' id l := by unfold At; rw [k.2 id a.lt hn]; exact a
def MapAt (h : PHeap) (m : Nat) (es : List (PV × PV)) : Prop := h[m]? = some (.mp es)
theorem MapAt.lt {h : PHeap} {m : Nat} {es : List (PV × PV)} (a : MapAt h m es) : m < h.length := (List.getElem?_eq_some_iff.1 a).1
theorem MapAt.keep {h h' : PHeap} {m : Nat} {es : List (PV × PV)} (a : MapAt h m es) (k : Keep h.length h h') : MapAt h' m es := by unfold MapAt; rw [k.2 m a.lt]; exact a
theorem MapAt.kb {h h' : PHeap} {id m : Nat} {es : List (PV × PV)} (a : MapAt h m es) (k : KB id h h') (hn : m ≠ id) : MapAt h' m es := by unfold MapAt; rw [k.2 m a.lt hn]; exact a
theorem At.ne {h : PHeap} {id m : Nat} {l : List PV} {es : List (PV × PV)} (a : At h id l) (b : MapAt h m es) : id ≠ m := by
  intro e; subst e; unfold At at a; unfold MapAt at b; rw [a] at b; cases b
theorem Fix.kb {b m : Nat} {h h' : PHeap} {p : PV} {xs : List Int} (s : Fix b h p xs) (k : KB m h h') (hb : b ≤ m) (hb2 : b ≤ h.length) : Fix b h' p xs := s.keep (k.keep hb hb2)

section
variable {Q : PV → PHeap → Prop} {h : PHeap}
/-- A new object. -/
theorem wnew {l : List PV} {x : Res} {f : PV × PHeap → Res} (hx : x = some (.ptr h.length 0, h ++ [.own 1 l])) (hf : ∀ h' id, At h' id l → Keep h.length h h' → h.length ≤ id → W (f (.ptr id 0, h')) Q) : W (x.bind f) Q := by
  rw [hx]
  exact hf _ _ (by unfold At; simp) (Keep.append _ _ _ (Nat.le_refl _)) (Nat.le_refl _)
/-- An object is written to. -/
theorem put_at {id : Nat} {l l' : List PV} (a : At h id l) : At (h.set id (.own 1 l')) id l' ∧ KB id h (h.set id (.own 1 l')) := by
  refine ⟨by unfold At; rw [List.getElem?_set_self a.lt], by simp, fun i _ hn => List.getElem?_set_ne (by omega)⟩
end

/-! ### types -/
theorem tyStA : isAggT Tryd.prog 58 = some true := by kernel_rfl
theorem tySt4 : sizeT Tryd.prog 58 = some 4 := by kernel_rfl
theorem tyStZ : zeroCellsT Tryd.prog 58 = some [.int .i64 0, .int .i64 0, .int .i64 0, .int .i64 0] := by kernel_rfl
theorem tyA3 : Tryd.prog.underlying 56 = some (.array 3 3) := by kernel_rfl
theorem tyA9 : Tryd.prog.underlying 70 = some (.array 9 3) := by kernel_rfl
theorem tyMp : Tryd.prog.underlying 69 = some (.map 58 3) := by kernel_rfl
theorem tyMpA : isAggT Tryd.prog 69 = some false := by kernel_rfl
theorem fSt0 (id : Nat) : fieldAddrP Tryd.prog 58 (.ptr id 0) 0 = some (.ptr id 0) := by kernel_rfl
theorem fSt1 (id : Nat) : fieldAddrP Tryd.prog 58 (.ptr id 0) 1 = some (.ptr id 3) := by kernel_rfl
theorem fs0 (id : Nat) : fieldAddrP Tryd.prog 72 (.ptr id 0) 0 = some (.ptr id 0) := by kernel_rfl
theorem fs1 (id : Nat) : fieldAddrP Tryd.prog 72 (.ptr id 0) 1 = some (.ptr id 9) := by kernel_rfl
theorem fs2 (id : Nat) : fieldAddrP Tryd.prog 72 (.ptr id 0) 2 = some (.ptr id 12) := by kernel_rfl
theorem fs3 (id : Nat) : fieldAddrP Tryd.prog 72 (.ptr id 0) 3 = some (.ptr id 15) := by kernel_rfl
theorem ia3 (id o i : Nat) (hi : i < 3) : indexAddrP Tryd.prog 56 (.ptr id o) (.int .i64 (i : Int)) = some (.ptr id (o + i)) := by simp [indexAddrP, tyA3, tySize]; omega
theorem ia9 (id o i : Nat) (hi : i < 9) : indexAddrP Tryd.prog 70 (.ptr id o) (.int .i64 (i : Int)) = some (.ptr id (o + i)) := by simp [indexAddrP, tyA9, tySize]; omega
theorem ld1 {h : PHeap} {id i : Nat} {l : List PV} {v : PV} (a : At h id l) (hv : l[i]? = some v) : loadP Tryd.prog 3 (.ptr id i) h = some v := by
  simp [loadP, tyAgg, cellsAt, show h[id]? = some (.own 1 l) from a, PObj.get, hv]
theorem ldM {h : PHeap} {id i : Nat} {l : List PV} {v : PV} (a : At h id l) (hv : l[i]? = some v) : loadP Tryd.prog 69 (.ptr id i) h = some v := by
  simp [loadP, tyMpA, cellsAt, show h[id]? = some (.own 1 l) from a, PObj.get, hv]
theorem st1 {h : PHeap} {id i : Nat} {l : List PV} {x : Int} (a : At h id l) (hi : i < l.length) : storeP Tryd.prog 3 (.ptr id i) (.int .i64 x) h = some (h.set id (.own 1 (l.set i (.int .i64 x)))) := by
  simp [storeP, show h[id]? = some (.own 1 l) from a, PV.cells, tySize, setCells]; omega

/-! ### what stands -/
def stC (f a b t : Nat) : List PV := [.int .i64 (f : Int), .int .i64 (a : Int), .int .i64 (b : Int), .int .i64 (t : Int)]
def stP (f a b t : Nat) : PV := .agg (stC f a b t)
theorem ldS {h : PHeap} {id f a b t : Nat} (o : At h id (stC f a b t)) : loadP Tryd.prog 58 (.ptr id 0) h = some (stP f a b t) := by
  simp [loadP, tyStA, tySt4, cellsAt, show h[id]? = some (.own 1 (stC f a b t)) from o, PObj.get, stC, stP]
theorem boxS (h : PHeap) (f a b t : Nat) : boxP (stP f a b t) h = some (.ptr h.length 0, h ++ [.own 1 (stC f a b t)]) := by simp [boxP, stP, stC, PV.cells, PV.oneCell]
theorem alS (h : PHeap) : allocP Tryd.prog 58 h = some (.ptr h.length 0, h ++ [.own 1 (stC 0 0 0 0)]) := by simp [allocP, tyStZ, stC]
theorem stS {h : PHeap} {id f a b t f' a' b' t' : Nat} (o : At h id (stC f' a' b' t')) : storeP Tryd.prog 58 (.ptr id 0) (stP f a b t) h = some (h.set id (.own 1 (stC f a b t))) := by
  simp [storeP, show h[id]? = some (.own 1 (stC f' a' b' t')) from o, stP, stC, PV.cells, PV.oneCell, tySt4, setCells]
theorem plainS {f a b t : Nat} : plainEq (stP f a b t) (stP f a b t) = true := plain_agg4

section
variable {Q : PV → PHeap → Prop} {h : PHeap} {id f a b t : Nat}
theorem wboxS {F : PV × PHeap → Res} (hf : ∀ h' id, At h' id (stC f a b t) → Keep h.length h h' → h.length ≤ id → W (F (.ptr id 0, h')) Q) : W ((boxP (stP f a b t) h).bind F) Q := wnew (boxS h f a b t) hf
theorem walS {F : PV × PHeap → Res} (hf : ∀ h' id, At h' id (stC 0 0 0 0) → Keep h.length h h' → h.length ≤ id → W (F (.ptr id 0, h')) Q) : W ((allocP Tryd.prog 58 h).bind F) Q := wnew (alS h) hf
theorem wstS {f' a' b' t' : Nat} (o : At h id (stC f' a' b' t')) {F : PHeap → Res} (hf : ∀ h', At h' id (stC f a b t) → KB id h h' → W (F h') Q) : W ((storeP Tryd.prog 58 (.ptr id 0) (stP f a b t) h).bind F) Q := by
  rw [stS o]; exact hf _ (put_at o).1 (put_at o).2
theorem wst1 {i : Nat} {l : List PV} {x : Int} (o : At h id l) (hi : i < l.length) {F : PHeap → Res} (hf : ∀ h', At h' id (l.set i (.int .i64 x)) → KB id h h' → W (F h') Q) : W ((storeP Tryd.prog 3 (.ptr id i) (.int .i64 x) h).bind F) Q := by
  rw [st1 o hi]; exact hf _ (put_at o).1 (put_at o).2
theorem wia3 {o i : Nat} (hi : i < 3) {F : PV → Res} (hf : W (F (.ptr id (o + i))) Q) : W ((indexAddrP Tryd.prog 56 (.ptr id o) (.int .i64 (i : Int))).bind F) Q := wbd (ia3 id o i hi) hf
theorem wia9 {o i : Nat} (hi : i < 9) {F : PV → Res} (hf : W (F (.ptr id (o + i))) Q) : W ((indexAddrP Tryd.prog 70 (.ptr id o) (.int .i64 (i : Int))).bind F) Q := wbd (ia9 id o i hi) hf
end

variable (g : Nat → PV) (lf n : Nat)

theorem exchanged_W (N : Nat) (hN : 1 ≤ N) (h : PHeap) {T : Nat} (hT : T = 1 ∨ T = 2) : CL g lf N fn_impl_exchanged [.int .i64 (T : Int)] h = some (.int .i64 ((3 - T : Nat) : Int), h) := by
  obtain ⟨n, rfl⟩ : ∃ n, N = n + 1 := ⟨N - 1, by omega⟩
  have : W (CL g lf (n + 1) fn_impl_exchanged [.int .i64 (T : Int)] h) fun v h' => v = .int .i64 ((3 - T : Nat) : Int) ∧ h' = h := by
    rw [impl_exchanged.call_eq]
    unfold impl_exchanged.main
    simp only [env_bin]
    rcases hT with rfl | rfl
    · repeat (first | with_reducible refine wT ?_ | with_reducible refine wrI ?_ | with_reducible refine weqlT (by omega) ?_)
      exact W.ret ⟨rfl, rfl⟩
    · repeat (first | with_reducible refine wT ?_ | with_reducible refine wF ?_ | with_reducible refine wrI ?_ | with_reducible refine weqlT (by omega) ?_ | with_reducible refine weqlF (by omega) ?_)
      exact W.ret ⟨rfl, rfl⟩
  obtain ⟨_, _, e, rfl, rfl⟩ := this
  exact e

theorem Keep.kbs {n m : Nat} {a b c : PHeap} (k : Keep n a b) (hn : n ≤ a.length) (k' : KB m b c) (hm : n ≤ m) : Keep n a c := k.trans (k'.keep hm (Nat.le_trans hn k.1))
theorem wia30 {Q : PV → PHeap → Prop} {id o : Nat} {F : PV → Res} (hf : W (F (.ptr id (o + 0))) Q) : W ((indexAddrP Tryd.prog 56 (.ptr id o) (.int .i64 0)).bind F) Q := wbd (ia3 id o 0 (by decide)) hf

theorem after_W {f a b t k : Nat} (hf : f < 2 ^ 9) (ha : a < 2 ^ 9) (hb : b < 2 ^ 9) (hk : k < 9) (ht : t = 1 ∨ t = 2) (N : Nat) (hN : 2 ≤ N) (h : PHeap) :
    W (CL g lf N fn_impl_standing_after [stP f a b t, .int .i64 (k : Int)] h) fun v h' => v = stP (without f k) (putA t k a) (putB t k b) (3 - t) ∧ Keep h.length h h' := by
  obtain ⟨n, rfl⟩ : ∃ n, N = n + 1 := ⟨N - 1, by omega⟩
  have hsl := shl_lt hk
  have e1 : ∀ h, CL g lf n fn_impl_exchanged [.int .i64 (t : Int)] h = some (.int .i64 ((3 - t : Nat) : Int), h) := fun h => exchanged_W g lf n (by omega) h ht
  rw [impl_standing_after.call_eq]
  unfold impl_standing_after.main
  simp only [env_C, env_alloc, env_box, env_load, env_store, env_bin, env_fieldAddr, env_indexAddr]
  refine wboxS fun h1 id o1 k1 l1 => ?_
  dsimp only
  refine walS fun h2 id2 o2 k2 l2 => ?_
  have o1' := o1.keep k2
  have hne : id2 ≠ id := by have := o1.lt; omega
  have kk2 : Keep h.length h h2 := k1.trans (k2.mono k1.1)
  repeat (first | (with_reducible refine wbd (fSt0 _) ?_) | (with_reducible refine wia30 ?_) | (with_reducible refine wbd (ld1 (by assumption) rfl) ?_) | with_reducible refine wshl (by omega) ?_ | with_reducible refine wandNot (by omega) (by omega) ?_ | dsimp only)
  refine wst1 o1' (show 0 + 0 < 4 by decide) fun h3 o3 k3 => ?_
  have o3 : At h3 id (stC (without f k) a b t) := o3
  have o23 := o2.kb k3 hne
  rcases ht with rfl | rfl
  · repeat (first | (with_reducible refine wbd (fSt0 _) ?_) | (with_reducible refine wbd (fSt1 _) ?_) | (with_reducible refine wia3 (by omega) ?_) | (with_reducible refine wbd (ld1 (by assumption) rfl) ?_) | with_reducible refine wshl (by omega) ?_ | with_reducible refine wor (by omega) (by omega) ?_)
    refine wst1 o3 (show 0 + 1 < 4 by decide) fun h4 o4 k4 => ?_
    have o4 : At h4 id (stC (without f k) (a ||| 1 <<< k) b 1) := o4
    have o24 := o23.kb k4 hne
    have e2 := e1 h4
    repeat (first | with_reducible refine wbd (by assumption) ?_ | (with_reducible refine wbd (fSt1 _) ?_) | (with_reducible refine wbd (ld1 (by assumption) rfl) ?_) | dsimp only)
    refine wst1 o4 (show 3 < 4 by decide) fun h5 o5 k5 => ?_
    have o5 : At h5 id (stC (without f k) (a ||| 1 <<< k) b (3 - 1)) := o5
    have o25 := o24.kb k5 hne
    repeat (first | (with_reducible refine wbd (ldS (by assumption)) ?_))
    refine wstS o25 fun h6 o6 k6 => ?_
    repeat (first | (with_reducible refine wbd (ldS (by assumption)) ?_))
    exact W.ret ⟨rfl, (((kk2.kbs (Nat.le_refl _) k3 l1).kbs (Nat.le_refl _) k4 l1).kbs (Nat.le_refl _) k5 l1).kbs (Nat.le_refl _) k6 (Nat.le_trans k1.1 l2)⟩
  · repeat (first | (with_reducible refine wbd (fSt0 _) ?_) | (with_reducible refine wbd (fSt1 _) ?_) | (with_reducible refine wia3 (by omega) ?_) | (with_reducible refine wbd (ld1 (by assumption) rfl) ?_) | with_reducible refine wshl (by omega) ?_ | with_reducible refine wor (by omega) (by omega) ?_)
    refine wst1 o3 (show 0 + 2 < 4 by decide) fun h4 o4 k4 => ?_
    have o4 : At h4 id (stC (without f k) a (b ||| 1 <<< k) 2) := o4
    have o24 := o23.kb k4 hne
    have e2 := e1 h4
    repeat (first | with_reducible refine wbd (by assumption) ?_ | (with_reducible refine wbd (fSt1 _) ?_) | (with_reducible refine wbd (ld1 (by assumption) rfl) ?_) | dsimp only)
    refine wst1 o4 (show 3 < 4 by decide) fun h5 o5 k5 => ?_
    have o5 : At h5 id (stC (without f k) a (b ||| 1 <<< k) (3 - 2)) := o5
    have o25 := o24.kb k5 hne
    repeat (first | (with_reducible refine wbd (ldS (by assumption)) ?_))
    refine wstS o25 fun h6 o6 k6 => ?_
    repeat (first | (with_reducible refine wbd (ldS (by assumption)) ?_))
    exact W.ret ⟨rfl, (((kk2.kbs (Nat.le_refl _) k3 l1).kbs (Nat.le_refl _) k4 l1).kbs (Nat.le_refl _) k5 l1).kbs (Nat.le_refl _) k6 (Nat.le_trans k1.1 l2)⟩

/-! ### a board's search -/
def nearV (R C j : Nat) : Nat := if j < R * C then wideN R C (1 <<< j) else 0
def srchV (R C : Nat) : List Nat := (List.range 9).map (nearV R C) ++ [0, sideN R C 1 false, sideN R C 2 false, 0, sideN R C 1 true, sideN R C 2 true]
def srchC (R C m : Nat) : List PV := (srchV R C).map (fun x : Nat => .int .i64 (x : Int)) ++ [.mapv m]
theorem srch_near (R C m k : Nat) (hk : k < 9) : (srchC R C m)[0 + k]? = some (.int .i64 (nearV R C k : Int)) := by
  rw [Nat.zero_add]
  unfold srchC srchV
  rw [List.map_append, List.append_assoc, List.getElem?_append_left (by simp; omega)]
  simp [hk]
theorem srch_first (R C m : Nat) {P : Nat} (hP : P = 1 ∨ P = 2) : (srchC R C m)[9 + P]? = some (.int .i64 (sideN R C P false : Int)) := by
  rcases hP with rfl | rfl <;> rfl
theorem srch_last (R C m : Nat) {P : Nat} (hP : P = 1 ∨ P = 2) : (srchC R C m)[12 + P]? = some (.int .i64 (sideN R C P true : Int)) := by
  rcases hP with rfl | rfl <;> rfl
theorem srch_map (R C m : Nat) : (srchC R C m)[15]? = some (.mapv m) := rfl

theorem nearV_lt {R C j : Nat} (hB : BoardOf R C) (hj : j < 9) : nearV R C j < 2 ^ 9 := by
  unfold nearV; split
  · exact wide_lt hB (shl_lt hj)
  · decide
theorem nearV_bit {R C k j : Nat} (hB : BoardOf R C) (hk : k < R * C) : (nearV R C k).testBit j = true ↔ j = k ∨ Adj (masksN R C) k j := by
  unfold nearV
  rw [if_pos hk, wide_bit hB, one_bit]
  constructor
  · rintro (h | ⟨i, h1, h2⟩)
    · exact .inl (by simpa using h)
    · rw [one_bit] at h1
      have : i = k := by simpa using h1
      exact .inr (this ▸ h2)
  · rintro (h | h)
    · exact .inl (by simpa using h)
    · exact .inr ⟨k, by rw [one_bit]; simp, h⟩
theorem bit_lt {x n j : Nat} (hx : x < 2 ^ n) (hj : x.testBit j = true) : j < n := by
  apply Classical.byContradiction
  intro hn
  rw [Nat.testBit_lt_two_pow (Nat.lt_of_lt_of_le hx (Nat.pow_le_pow_right (by decide) (by omega)))] at hj; cases hj

theorem joins_W {R C P own : Nat} (hB : BoardOf R C) (hP : P = 1 ∨ P = 2) (hown : own < 2 ^ (R * C)) (hbig : Big g) {h : PHeap} {s m : Nat} (hs : At h s (srchC R C m)) (ht : Tab64 g h) (N : Nat) (hN : 4 ≤ N) (hlf : 1000 < lf) :
    CL g lf N fn_impl_search_joins [.ptr s 0, .int .i64 (own : Int), .int .i64 (P : Int)] h = some (.bool (joinsN R C P own), h) := by
  obtain ⟨n, rfl⟩ : ∃ n, N = n + 1 := ⟨N - 1, by omega⟩
  have h9 := hB.2.2.2.2
  have hown9 : own < 2 ^ 9 := Nat.lt_of_lt_of_le hown (Nat.pow_le_pow_right (by decide) h9)
  have hP3 : P < 3 := by omega
  have s1 := sideN_lt (P := P) (last := false) hB
  have s2 := sideN_lt (P := P) (last := true) hB
  have hS9 : own &&& sideN R C P false < 2 ^ 9 := Nat.and_lt_two_pow _ s1
  have : W (CL g lf (n + 1) fn_impl_search_joins [.ptr s 0, .int .i64 (own : Int), .int .i64 (P : Int)] h) fun v h' => v = .bool (joinsN R C P own) ∧ h' = h := by
    rw [impl_search_joins.call_eq]
    unfold impl_search_joins.main
    simp only [env_lf, env_load, env_ptr, env_bin, env_fieldAddr, env_indexAddr]
    repeat (first | with_reducible refine wptr ?_ | (with_reducible refine wbd (fs1 _) ?_) | (with_reducible refine wia3 (by omega) ?_) | (with_reducible refine wbd (ld1 (by assumption) (srch_first _ _ _ hP)) ?_) | with_reducible refine wand (by omega) (by omega) ?_)
    obtain ⟨S, hS⟩ : ∃ S, S = own &&& sideN R C P false := ⟨_, rfl⟩
    rw [← hS] at hS9 ⊢
    have hSo : ∀ j, S.testBit j = true → own.testBit j = true := fun j hj => by
      rw [hS, Nat.testBit_and, Bool.and_eq_true] at hj; exact hj.1
    refine loopW (fun m' st => ∃ X w : Nat, st = impl_search_joins.st0 (.ptr s 0) (.int .i64 (own : Int)) (.int .i64 (P : Int)) (.int .i64 (X : Int)) (.int .i64 (w : Int)) h ∧ X < 2 ^ 9 ∧ (∀ j, w.testBit j = true → X.testBit j = true) ∧ (∀ j, X.testBit j = true → own.testBit j = true) ∧
      (∀ j, S.testBit j = true → X.testBit j = true) ∧ (∀ j, X.testBit j = true → Reach (masksN R C) (S ||| own) S j) ∧ (∀ k j, X.testBit k = true → w.testBit k = false → Adj (masksN R C) k j → own.testBit j = true → X.testBit j = true) ∧ m' = (512 - X) + (if w = 0 then 0 else 1)) ?_ lf (512 - S + (if S = 0 then 0 else 1)) _ (by split <;> omega)
      ⟨S, S, rfl, hS9, fun _ h => h, hSo, fun _ h => h, fun j hj => .start hj (by rw [Nat.testBit_or, hj]; rfl), fun k j h1 h2 _ _ => (by rw [h1] at h2; cases h2), rfl⟩
    rintro n1 m1 st ⟨X, w, rfl, hX, hw, hXo, hSX, hXr, hc, hm⟩ next
    rw [impl_search_joins.body0_eq]
    unfold impl_search_joins.body0
    simp only [env_lf, env_bin]
    by_cases e : w = 0
    · subst e
      repeat (first | with_reducible refine wF ?_ | with_reducible refine wptr ?_ | (with_reducible refine wbd (fs2 _) ?_) | (with_reducible refine wia3 (by omega) ?_) | (with_reducible refine wbd (ld1 (by assumption) (srch_last _ _ _ hP)) ?_) | with_reducible refine wand (by omega) (by omega) ?_ | with_reducible refine wneqF (by omega) ?_ | rw [kLoop_exit] | rw [impl_search_joins.after0_se0_0_1_2_7_8_21] | simp only [env_C, env_Y, env_g, env_lf, env_pick, env_alloc, env_box, env_build, env_buildSlice, env_load, env_store, env_ptr, env_bin, env_un, env_conv, env_make, env_slice, env_fieldAddr, env_field, env_indexAddr, env_index, env_extract, env_len, env_append, env_max, env_min, env_makeMap, env_lookup, env_update, env_clos, env_bstr, env_ext])
      have hXg : X = growN (masksN R C) own (sideN R C P false) := by
        rw [grown_is hS9 hown9 hSX hXr fun k j h1 h2 h3 => hc k j h1 (Nat.zero_testBit _) h2 h3, hS, Nat.and_comm]
        exact grown_in
      unfold joinsN
      rw [← hXg]
      refine wneq (fun e => ?_) (fun e => ?_)
      · repeat (first | with_reducible refine wrB ?_)
        refine W.ret ⟨?_, rfl⟩
        rw [decide_eq_false (by omega)]; rfl
      · repeat (first | with_reducible refine wrB ?_)
        refine W.ret ⟨?_, rfl⟩
        rw [decide_eq_true (by omega)]; rfl
    · have hw9 : w < 2 ^ 9 := Nat.lt_of_le_of_lt (sub_le hw) hX
      have hwc : ∀ k, w.testBit k = true → k < R * C := fun k hk => bit_lt hown (hXo k (hw k hk))
      repeat (first | with_reducible refine wT ?_ | with_reducible refine wneqT (by omega) ?_)
      refine loopW (fun m' st => ∃ wd r : Nat, st = impl_search_joins.st1 (.ptr s 0) (.int .i64 (own : Int)) (.int .i64 (P : Int)) (.int .i64 (X : Int)) (.int .i64 (wd : Int)) (.int .i64 (r : Int)) h ∧ wd < 2 ^ 9 ∧ r < 2 ^ 9 ∧ (∀ j, r.testBit j = true → w.testBit j = true) ∧
        (∀ j, wd.testBit j = true ↔ ∃ k, w.testBit k = true ∧ r.testBit k = false ∧ (nearV R C k).testBit j = true) ∧ m' = r) ?_ lf w _ (by omega) ⟨0, w, rfl, by decide, hw9, fun _ h => h, fun j => ⟨fun h => (by rw [Nat.zero_testBit] at h; cases h), fun ⟨k, h1, h2, _⟩ => (by rw [h1] at h2; cases h2)⟩, rfl⟩
      rintro n2 m2 st ⟨wd, r, rfl, hwd, hr, hrw, hwb, hm2⟩ next2
      rw [impl_search_joins.body1_eq]
      unfold impl_search_joins.body1
      simp only [env_C, env_load, env_ptr, env_bin, env_fieldAddr, env_indexAddr]
      by_cases e2 : r = 0
      · subst e2
        have hal : wd &&& own < 2 ^ 9 := Nat.and_lt_two_pow _ hown9
        have hml : minusN (wd &&& own) X < 2 ^ 9 := minusN_lt hal
        repeat (first | with_reducible refine wF ?_ | with_reducible refine wand (by omega) (by omega) ?_ | with_reducible refine wor (by omega) (by omega) ?_ | with_reducible refine wandNot (by omega) (by omega) ?_ | with_reducible refine wneqF (by omega) ?_ | rw [kLoop_exit] | rw [impl_search_joins.after1_se2_0_1_2_7_9_10_24] | simp only [env_C, env_Y, env_g, env_lf, env_pick, env_alloc, env_box, env_build, env_buildSlice, env_load, env_store, env_ptr, env_bin, env_un, env_conv, env_make, env_slice, env_fieldAddr, env_field, env_indexAddr, env_index, env_extract, env_len, env_append, env_max, env_min, env_makeMap, env_lookup, env_update, env_clos, env_bstr, env_ext])
        obtain ⟨w', hw'⟩ : ∃ w', w' = minusN (wd &&& own) X := ⟨_, rfl⟩
        have hb : ∀ j, w'.testBit j = true ↔ (w.testBit j = true ∨ ∃ k, w.testBit k = true ∧ Adj (masksN R C) k j) ∧ own.testBit j = true ∧ X.testBit j = false := fun j => by
          have hwj : wd.testBit j = true ↔ (w.testBit j = true ∨ ∃ k, w.testBit k = true ∧ Adj (masksN R C) k j) := by
            rw [hwb]
            constructor
            · rintro ⟨k, h1, _, h2⟩
              rcases (nearV_bit hB (hwc k h1)).1 h2 with rfl | h3
              · exact .inl h1
              · exact .inr ⟨k, h1, h3⟩
            · rintro (h1 | ⟨k, h1, h3⟩)
              · exact ⟨j, h1, Nat.zero_testBit _, (nearV_bit hB (hwc j h1)).2 (.inl rfl)⟩
              · exact ⟨k, h1, Nat.zero_testBit _, (nearV_bit hB (hwc k h1)).2 (.inr h3)⟩
          rw [← hwj, hw', minusN_bit, Nat.testBit_and]; cases wd.testBit j <;> cases own.testBit j <;> cases X.testBit j <;> simp
        rw [← hw'] at hml ⊢
        have hor : X ||| w' < 2 ^ 9 := Nat.or_lt_two_pow hX hml
        have hle : X ≤ X ||| w' := Nat.left_le_or
        have hne : w' ≠ 0 → X ≠ X ||| w' := fun hz he => by
          obtain ⟨j, hj⟩ := bit_of_ne hz
          have h1 := ((hb j).1 hj).2.2
          rw [he, Nat.testBit_or, hj, Bool.or_true] at h1; cases h1
        refine next _ _ ?_ ⟨X ||| w', w', rfl, hor, fun j hj => by rw [Nat.testBit_or, hj, Bool.or_true], fun j hj => ?_, fun j hj => by rw [Nat.testBit_or, hSX j hj, Bool.true_or], ?_, ?_, rfl⟩
        · rw [hm, if_neg e]
          by_cases e' : w' = 0
          · rw [if_pos e']; omega
          · rw [if_neg e']; have := hne e'; omega
        · rw [Nat.testBit_or, Bool.or_eq_true] at hj
          rcases hj with hj | hj
          · exact hXo j hj
          · exact ((hb j).1 hj).2.1
        · intro j hj
          rw [Nat.testBit_or, Bool.or_eq_true] at hj
          rcases hj with hj | hj
          · exact hXr j hj
          · obtain ⟨h1 | ⟨k, h1, h2⟩, h3, h4⟩ := (hb j).1 hj
            · rw [hw j h1] at h4; cases h4
            · exact .step (hXr k (hw k h1)) h2 (by rw [Nat.testBit_or, h3, Bool.or_true])
        · intro k j h1 h2 h3 h4
          rw [Nat.testBit_or, h2, Bool.or_false] at h1
          rw [Nat.testBit_or]
          by_cases hk : w.testBit k = true
          · cases hx : X.testBit j with
            | true => rfl
            | false => rw [(hb j).2 ⟨.inr ⟨k, hk, h3⟩, h4, hx⟩]; rfl
          · rw [hc k j h1 (by simpa using hk) h3 h4]; rfl
      · have el := leastIn_W g lf hr e2 hbig ht n (by omega)
        obtain ⟨l1, l2, l3, l4⟩ := low_ok hr e2
        obtain ⟨d1, d2⟩ := f_drop hr e2
        have hlt := without_less hr e2
        have hwl := without_lt9 (k := lowN r) hr
        obtain ⟨k, hk⟩ : ∃ k, k = lowN r := ⟨_, rfl⟩
        rw [← hk] at el l1 l2 d2 hlt hwl
        have hnv := nearV_lt hB l2
        have hwr := hrw k l1
        repeat (first | with_reducible refine wT ?_ | with_reducible refine wptr ?_ | with_reducible refine wbd (by assumption) ?_ | (with_reducible refine wbd (fs0 _) ?_) | (with_reducible refine wia9 l2 ?_) | (with_reducible refine wbd (ld1 (by assumption) (srch_near _ _ _ _ l2)) ?_) | with_reducible refine wor (by omega) (by omega) ?_ | with_reducible refine wneqT (by omega) ?_ | dsimp only)
        refine next2 _ _ (hm2 ▸ hlt) ⟨_, _, rfl, Nat.or_lt_two_pow hwd hnv, hwl, fun j hj => ?_, fun j => ?_, rfl⟩
        · rw [without_bit, Bool.and_eq_true] at hj; exact hrw j hj.1
        · rw [Nat.testBit_or, Bool.or_eq_true, hwb]
          constructor
          · rintro (⟨i, h1, h2, h3⟩ | h1)
            · exact ⟨i, h1, by rw [without_bit, h2]; rfl, h3⟩
            · exact ⟨k, hwr, by rw [without_bit]; simp, h1⟩
          · rintro ⟨i, h1, h2, h3⟩
            by_cases hik : i = k
            · subst hik; exact .inr h3
            · rw [without_bit] at h2
              simp only [ne_eq, hik, not_false_eq_true, decide_true, Bool.and_true] at h2
              exact .inl ⟨i, h1, h2, h3⟩
  obtain ⟨_, _, e, rfl, rfl⟩ := this
  exact e

def whoN (R C a b : Nat) : Nat := if joinsN R C 1 a = true then 1 else if joinsN R C 2 b = true then 2 else 0

theorem joined_W {R C f a b t : Nat} (hB : BoardOf R C) (hp : Pos R C a b) (hbig : Big g) {h : PHeap} {s m : Nat} (hs : At h s (srchC R C m)) (ht : Tab64 g h) (N : Nat) (hN : 5 ≤ N) (hlf : 1000 < lf) :
    ∃ h', CL g lf N fn_impl_search_joined [.ptr s 0, stP f a b t] h = some (.int .i64 (whoN R C a b : Int), h') ∧ Keep h.length h h' := by
  obtain ⟨n, rfl⟩ : ∃ n, N = n + 1 := ⟨N - 1, by omega⟩
  have : W (CL g lf (n + 1) fn_impl_search_joined [.ptr s 0, stP f a b t] h) fun v h' => v = .int .i64 (whoN R C a b : Int) ∧ Keep h.length h h' := by
    rw [impl_search_joined.call_eq]
    unfold impl_search_joined.main
    simp only [env_lf, env_box]
    refine wboxS fun h1 id o1 k1 l1 => ?_
    have hs1 := hs.keep k1
    have e1 := joins_W g lf hB (P := 1) (.inl rfl) hp.1 hbig hs1 (ht.keep k1) n (by omega) hlf
    have e2 := joins_W g lf hB (P := 2) (.inr rfl) hp.2.1 hbig hs1 (ht.keep k1) n (by omega) hlf
    refine loopW (fun m' st => ∃ P : Nat, st = impl_search_joined.st0 (.ptr s 0) (.ptr id 0) (.int .i64 (P : Int)) h1 ∧ P + m' = 3 ∧ 1 ≤ P ∧ (2 ≤ P → joinsN R C 1 a = false) ∧ (3 ≤ P → joinsN R C 2 b = false)) ?_ lf 2 _ (by omega) ⟨1, rfl, rfl, by decide, by omega, by omega⟩
    rintro n1 m1 st ⟨P, rfl, hm, hP1, j1, j2⟩ next
    rw [impl_search_joined.body0_eq]
    unfold impl_search_joined.body0
    simp only [env_C, env_load, env_bin, env_fieldAddr, env_indexAddr]
    have hP : P = 1 ∨ P = 2 ∨ P = 3 := by omega
    rcases hP with rfl | rfl | rfl
    · cases hj : joinsN R C 1 a with
      | true =>
        rw [hj] at e1
        repeat (first | with_reducible refine wT ?_ | with_reducible refine wrI ?_ | with_reducible refine wbd (by assumption) ?_ | (with_reducible refine wbd (fSt0 _) ?_) | (with_reducible refine wia3 (by omega) ?_) | (with_reducible refine wbd (ld1 (by assumption) rfl) ?_) | with_reducible refine wleqT (by omega) ?_ | rw [kLoop_ret] | rw [impl_search_joined.K0_ret] | rw [impl_search_joined.top_sr_4] | dsimp only)
        exact W.ret ⟨by unfold whoN; rw [hj]; rfl, k1⟩
      | false =>
        rw [hj] at e1
        repeat (first | with_reducible refine wT ?_ | with_reducible refine wF ?_ | with_reducible refine wbd (by assumption) ?_ | (with_reducible refine wbd (fSt0 _) ?_) | (with_reducible refine wia3 (by omega) ?_) | (with_reducible refine wbd (ld1 (by assumption) rfl) ?_) | with_reducible refine wadd1 (by omega) ?_ | with_reducible refine wleqT (by omega) ?_ | dsimp only)
        exact next _ _ (show 1 < m1 by omega) ⟨2, rfl, rfl, by decide, fun _ => hj, by omega⟩
    · cases hj : joinsN R C 2 b with
      | true =>
        rw [hj] at e2
        repeat (first | with_reducible refine wT ?_ | with_reducible refine wrI ?_ | with_reducible refine wbd (by assumption) ?_ | (with_reducible refine wbd (fSt0 _) ?_) | (with_reducible refine wia3 (by omega) ?_) | (with_reducible refine wbd (ld1 (by assumption) rfl) ?_) | with_reducible refine wleqT (by omega) ?_ | rw [kLoop_ret] | rw [impl_search_joined.K0_ret] | rw [impl_search_joined.top_sr_4] | dsimp only)
        exact W.ret ⟨by unfold whoN; rw [j1 (by decide), hj]; rfl, k1⟩
      | false =>
        rw [hj] at e2
        repeat (first | with_reducible refine wT ?_ | with_reducible refine wF ?_ | with_reducible refine wbd (by assumption) ?_ | (with_reducible refine wbd (fSt0 _) ?_) | (with_reducible refine wia3 (by omega) ?_) | (with_reducible refine wbd (ld1 (by assumption) rfl) ?_) | with_reducible refine wadd1 (by omega) ?_ | with_reducible refine wleqT (by omega) ?_ | dsimp only)
        exact next _ _ (show 0 < m1 by omega) ⟨3, rfl, rfl, by decide, fun _ => j1 (by decide), fun _ => hj⟩
    · repeat (first | with_reducible refine wF ?_ | with_reducible refine wrI ?_ | with_reducible refine wleqF (by omega) ?_ | rw [kLoop_exit] | rw [impl_search_joined.after0_se0_0_3_5_7])
      exact W.ret ⟨by unfold whoN; rw [j1 (by decide), j2 (by decide)]; rfl, k1⟩
  obtain ⟨_, h', e, rfl, k⟩ := this
  exact ⟨h', e, k⟩

end Go.Proofs.YtpaehbfknlpkbadDoor

/- The program's search with its map: who wins what stands, and by which moves. -/
set_option maxRecDepth 20000
namespace Go.Proofs.YtpaehbfknlpkbadDoor
open Go Go.Ip G

/-- What may stand: free cells, stones of both, who is to move. -/
def Stands (R C f a b t : Nat) : Prop := Pos R C a b ∧ f < 2 ^ 9 ∧ (∀ k, f.testBit k = true ↔ k < R * C ∧ (a ||| b).testBit k = false) ∧ (t = 1 ∨ t = 2)
theorem Stands.put {R C f a b t k : Nat} (h : Stands R C f a b t) (hk : f.testBit k = true) : Stands R C (without f k) (putA t k a) (putB t k b) (3 - t) := by
  obtain ⟨h1, h2, h3, h4⟩ := h
  obtain ⟨k1, k2⟩ := (h3 k).1 hk
  refine ⟨h1.put k1 k2, without_lt9 h2, fun j => ?_, by omega⟩
  rw [without_bit, put_bit, Bool.and_eq_true, h3, Bool.or_eq_false_iff]
  simp only [decide_eq_true_eq, decide_eq_false_iff_not]
  exact ⟨fun ⟨⟨a1, a2⟩, a3⟩ => ⟨a1, a2, a3⟩, fun ⟨a1, a2, a3⟩ => ⟨⟨a1, a2⟩, a3⟩⟩

/-- Every entry of the map tells who wins. -/
def Memo (R C : Nat) (es : List (PV × PV)) : Prop := ∀ p ∈ es, ∃ f a b t, Stands R C f a b t ∧ p = (stP f a b t, .int .i64 (winN R C a b t : Int))

theorem eqK_st {f a b t f' a' b' t' : Nat} (h : eqK (stP f a b t) (stP f' a' b' t') = true) : f = f' ∧ a = a' ∧ b = b' ∧ t = t' := by
  simp only [eqK, stP, stC, eqL, eq1, Bool.and_eq_true, decide_eq_true_eq] at h
  omega
theorem memo_find {R C f a b t : Nat} : ∀ {es : List (PV × PV)} {v : PV}, Memo R C es → findM es (stP f a b t) = some v → v = .int .i64 (winN R C a b t : Int)
  | [], v, _, h => by cases h
  | p :: es, v, hm, h => by
    obtain ⟨f', a', b', t', _, rfl⟩ := hm p (by simp)
    unfold findM at h
    cases e : eqK (stP f' a' b' t') (stP f a b t) with
    | true =>
      rw [e] at h
      obtain ⟨_, rfl, rfl, rfl⟩ := eqK_st e
      cases h; rfl
    | false =>
      rw [e] at h
      exact memo_find (fun q hq => hm q (by simp [hq])) h
theorem memo_put {R C f a b t : Nat} (hs : Stands R C f a b t) : ∀ {es : List (PV × PV)}, Memo R C es → Memo R C (putM es (stP f a b t) (.int .i64 (winN R C a b t : Int)))
  | [], _ => fun p hp => by
    simp only [putM, List.mem_singleton] at hp
    exact ⟨f, a, b, t, hs, hp⟩
  | p :: es, hm => by
    obtain ⟨f', a', b', t', hs', rfl⟩ := hm p (by simp)
    have hr : Memo R C es := fun q hq => hm q (by simp [hq])
    unfold putM
    cases e : eqK (stP f' a' b' t') (stP f a b t) with
    | true =>
      obtain ⟨rfl, rfl, rfl, rfl⟩ := eqK_st e
      intro q hq
      rcases List.mem_cons.1 hq with rfl | hq
      · exact ⟨f', a', b', t', hs, rfl⟩
      · exact hr q hq
    | false =>
      intro q hq
      rcases List.mem_cons.1 hq with rfl | hq
      · exact ⟨f', a', b', t', hs', rfl⟩
      · exact memo_put hs hr q hq

/-! ### the keys -/
theorem keyedSt : keyedB Tryd.prog 58 = true := by kernel_rfl
theorem zeroInt : zero1 Tryd.prog 3 = some (.int .i64 0) := by kernel_rfl
theorem stU : Tryd.prog.underlying 58 = some (.struct (Tryd.prog.fieldsOf 58)) := by kernel_rfl
theorem stF : (Tryd.prog.fieldsOf 58).toList.map (fun f => (f.type, f.offset)) = [(56, 0), (3, 3)] := by kernel_rfl
theorem stN : (Tryd.prog.fieldsOf 58).all (·.name != "_") = true := by kernel_rfl
theorem stK : Tryd.prog.keyType 58 = true := by kernel_rfl
theorem tyIntU : Tryd.prog.underlying 3 = some (.int .i64) := by kernel_rfl
theorem ce1 : Tryd.prog.cellsOf 3 = 1 := by kernel_rfl
theorem ce3 : Tryd.prog.cellsOf 56 = 3 := by kernel_rfl
theorem ce4 : Tryd.prog.cellsOf 58 = 4 := by kernel_rfl
theorem tySz : Nat.ble 2 Tryd.prog.types.size = true := by kernel_rfl
theorem wf_small {x : Nat} (hx : x < 2 ^ 9) : (Lit.int .i64 (x : Int)).wf = true := by
  have h1 : IntKind.i64.min = -9223372036854775808 := by decide
  have h2 : IntKind.i64.max = 9223372036854775807 := by decide
  simp only [Lit.wf, h1, h2, Bool.and_eq_true, decide_eq_true_eq]
  omega
theorem lits_int {D x : Nat} (hx : x < 2 ^ 9) : Tryd.prog.keyLits (D + 1) 3 [.int .i64 (x : Int)] = some [.int .i64 (x : Int)] := by
  simp [Program.keyLits, tyIntU, wf_small hx]
theorem lits_arr {D x y z : Nat} (hx : x < 2 ^ 9) (hy : y < 2 ^ 9) (hz : z < 2 ^ 9) : Tryd.prog.keyLits (D + 2) 56 [.int .i64 (x : Int), .int .i64 (y : Int), .int .i64 (z : Int)] = some [.int .i64 (x : Int), .int .i64 (y : Int), .int .i64 (z : Int)] := by
  unfold Program.keyLits
  rw [tyA3]
  simp only [ce1, ce3, List.length_cons, List.length_nil, if_true]
  rw [show List.range 3 = [0, 1, 2] from rfl]
  simp [lits_int hx, lits_int hy, lits_int hz]
theorem lits_st {D f a b t : Nat} (hf : f < 2 ^ 9) (ha : a < 2 ^ 9) (hb : b < 2 ^ 9) (ht : t < 2 ^ 9) : ∃ L, Tryd.prog.keyLits (D + 3) 58 [.int .i64 (f : Int), .int .i64 (a : Int), .int .i64 (b : Int), .int .i64 (t : Int)] = some L := by
  unfold Program.keyLits
  rw [stU]
  simp only [ce4, List.length_cons, List.length_nil, stN, and_self, if_true]
  have hF := stF
  generalize Tryd.prog.fieldsOf 58 = fs at hF ⊢
  obtain ⟨L⟩ := fs
  match L, hF with
  | [f0, f1], hF =>
    simp only [List.map_cons, List.map_nil, List.cons.injEq, Prod.mk.injEq, and_true] at hF
    obtain ⟨⟨t0, o0⟩, t1, o1⟩ := hF
    refine ⟨[.int .i64 (f : Int), .int .i64 (a : Int), .int .i64 (b : Int), .int .i64 (t : Int)], ?_⟩
    simp [t0, o0, t1, o1, ce1, ce3, lits_arr hf ha hb, lits_int ht]
  | [], hF => simp at hF
  | [_], hF => simp at hF
  | _ :: _ :: _ :: _, hF => simp at hF
theorem isKey_st {R C f a b t : Nat} (hB : BoardOf R C) (hs : Stands R C f a b t) : isKeyP Tryd.prog 58 (stP f a b t) = true := by
  obtain ⟨hp, hf, _, ht⟩ := hs
  have l9 := hp.lt9 hB
  obtain ⟨D, hD⟩ : ∃ D, Tryd.prog.types.size + 1 = D + 3 := ⟨Tryd.prog.types.size - 2, by have := Nat.le_of_ble_eq_true tySz; omega⟩
  obtain ⟨L, hL⟩ := lits_st (D := D) hf l9.1 l9.2 (show t < 2 ^ 9 by omega)
  have hk : keyV (stP f a b t) = some (.agg #[.int .i64 (f : Int), .int .i64 (a : Int), .int .i64 (b : Int), .int .i64 (t : Int)]) := rfl
  have hfo : (Value.agg #[.int .i64 (f : Int), .int .i64 (a : Int), .int .i64 (b : Int), .int .i64 (t : Int)]).formed Tryd.prog 58 = true := by
    simp [Value.formed, stU, ce4]
  unfold isKeyP
  rw [hk]
  simp only [keyOf, stU, stK, hfo, Bool.and_self, if_true, hD, Value.cells, hL, Option.map_some, Option.isSome_some]
theorem keys_memo {R C : Nat} {es : List (PV × PV)} (hB : BoardOf R C) (hm : Memo R C es) {f a b t : Nat} (hs : Stands R C f a b t) : keysB Tryd.prog 58 es (stP f a b t) = true := by
  unfold keysB
  rw [keyedSt, isKey_st hB hs, Bool.and_self, Bool.true_and, List.all_eq_true]
  intro p hp
  obtain ⟨f', a', b', t', hs', rfl⟩ := hm p hp
  exact isKey_st hB hs'

theorem look_st {R C m : Nat} {es : List (PV × PV)} {h : PHeap} (hB : BoardOf R C) (hM : MapAt h m es) (hm : Memo R C es) {f a b t : Nat} (hs : Stands R C f a b t) :
    lookupP Tryd.prog 69 (.mapv m) (stP f a b t) true h = some (foundP true (.int .i64 0) (findM es (stP f a b t))) := by
  have hk := keys_memo hB hm hs
  have hma : mapAt h m = some es := by unfold mapAt; rw [show h[m]? = some (.mp es) from hM]
  simp only [lookupP, tyMp, hma, zeroInt, hk, cond_true]
theorem upd_st {R C m : Nat} {es : List (PV × PV)} {h : PHeap} (hB : BoardOf R C) (hM : MapAt h m es) (hm : Memo R C es) {f a b t : Nat} (hs : Stands R C f a b t) (x : Int) :
    updateP Tryd.prog 69 (.mapv m) (stP f a b t) (.int .i64 x) h = some (h.set m (.mp (putM es (stP f a b t) (.int .i64 x)))) := by
  have hk := keys_memo hB hm hs
  have hma : mapAt h m = some es := by unfold mapAt; rw [show h[m]? = some (.mp es) from hM]
  simp only [updateP, tyMp, hma, hk, PV.oneCell, Bool.and_self, cond_true]

/-- The search of a board: its tables, and its map, right in every entry. -/
def Sch (R C : Nat) (h : PHeap) (s m : Nat) : Prop := At h s (srchC R C m) ∧ ∃ es, MapAt h m es ∧ Memo R C es
theorem Sch.keep {R C s m : Nat} {h h' : PHeap} (hs : Sch R C h s m) (k : Keep h.length h h') : Sch R C h' s m := by
  obtain ⟨a, es, b, c⟩ := hs; exact ⟨a.keep k, es, b.keep k, c⟩
theorem Sch.ne {R C s m id : Nat} {h : PHeap} {l : List PV} (hs : Sch R C h s m) (a : At h id l) : id ≠ m := by
  obtain ⟨_, es, b, _⟩ := hs; exact a.ne b
theorem Sch.lt {R C s m : Nat} {h : PHeap} (hs : Sch R C h s m) : m < h.length := by
  obtain ⟨_, es, b, _⟩ := hs; exact b.lt
theorem Tab64.kb {g : Nat → PV} {R C s m : Nat} {h h' : PHeap} (t : Tab64 g h) (hs : Sch R C h s m) (k : KB m h h') : Tab64 g h' := fun id e => by
  have ho := t id e
  obtain ⟨_, es, b, _⟩ := hs
  rw [k.2 id (List.getElem?_eq_some_iff.1 ho).1 (fun e => by subst e; unfold MapAt at b; rw [ho] at b; cases b)]; exact ho
theorem Tab.kb {g : Nat → PV} {R C s m : Nat} {h h' : PHeap} (t : Tab g h) (hs : Sch R C h s m) (k : KB m h h') : Tab g h' := by
  obtain ⟨id, e, ho⟩ := t
  obtain ⟨_, es, b, _⟩ := hs
  exact ⟨id, e, by rw [k.2 id (List.getElem?_eq_some_iff.1 ho).1 (fun e => by subst e; unfold MapAt at b; rw [ho] at b; cases b)]; exact ho⟩

theorem who_win {R C a b t : Nat} (hB : BoardOf R C) (hp : Pos R C a b) : (whoN R C a b ≠ 0 → winN R C a b t = whoN R C a b) ∧ (whoN R C a b = 0 → joinsN R C 1 a = false ∧ joinsN R C 2 b = false) ∧ whoN R C a b ≤ 2 := by
  unfold whoN
  cases h1 : joinsN R C 1 a with
  | true => exact ⟨fun _ => win_first h1, fun h => by simp at h, by simp⟩
  | false =>
    cases h2 : joinsN R C 2 b with
    | true => exact ⟨fun _ => by rw [win_second hB hp h2]; rfl, fun h => by simp at h, by simp⟩
    | false => exact ⟨fun h => by simp at h, fun _ => ⟨rfl, rfl⟩, by simp⟩

theorem fr_put' {R C f a b t k : Nat} (hs : Stands R C f a b t) (hk : f.testBit k = true) : frN (R * C) (putA t k a) (putB t k b) + 1 ≤ frN (R * C) a b := by
  obtain ⟨k1, k2⟩ := (hs.2.2.1 k).1 hk; exact fr_put k1 k2

variable (g : Nat → PV) (lf n : Nat)

def WinOk (R C s m : Nat) (b : Nat) : Prop := ∀ (f a b' t N : Nat) (h : PHeap), frN (R * C) a b' ≤ b → Stands R C f a b' t → 2 * b + 8 ≤ N → Sch R C h s m → Tab64 g h →
  W (CL g lf N fn_impl_search_winner [.ptr s 0, stP f a b' t] h) fun v h' => v = .int .i64 (winN R C a b' t : Int) ∧ Sch R C h' s m ∧ KB m h h'

theorem solved_W {R C s m B : Nat} (hB : BoardOf R C) (hbig : Big g) (hlf : 1000 < lf) (ih : ∀ b, b < B → WinOk g lf R C s m b) {f a b t : Nat} (hfr : frN (R * C) a b ≤ B) (hst : Stands R C f a b t) (N : Nat) (hN : 2 * B + 7 ≤ N) {h : PHeap} (hs : Sch R C h s m) (ht : Tab64 g h) :
    W (CL g lf N fn_impl_search_solved [.ptr s 0, stP f a b t] h) fun v h' => v = .int .i64 (winN R C a b t : Int) ∧ Sch R C h' s m ∧ KB m h h' := by
  obtain ⟨n, rfl⟩ : ∃ n, N = n + 1 := ⟨N - 1, by omega⟩
  obtain ⟨hp, hf9, hfree, hT⟩ := id hst
  have h9 := hB.2.2.2.2
  have l9 := hp.lt9 hB
  obtain ⟨w1, w2, w3⟩ := who_win (t := t) hB hp
  rw [impl_search_solved.call_eq]
  unfold impl_search_solved.main
  simp only [env_C, env_lf, env_box, env_load, env_bin, env_fieldAddr, env_indexAddr]
  refine wboxS fun h1 id o1 k1 l1 => ?_
  have hs1 := hs.keep k1
  have ht1 := ht.keep k1
  obtain ⟨h2, e1, k2⟩ := joined_W g lf (f := f) (t := t) hB hp hbig hs1.1 ht1 n (by omega) hlf
  have hs2 := hs1.keep k2
  have ht2 := ht1.keep k2
  have o2 := o1.keep k2
  repeat (first | with_reducible refine wbd (by assumption) ?_ | (with_reducible refine wbd (ldS (by assumption)) ?_) | dsimp only)
  refine wneq (fun e => ?_) (fun e => ?_)
  · repeat (first | with_reducible refine wT ?_ | with_reducible refine wrI ?_)
    exact W.ret ⟨by rw [w1 (by omega)], hs2, k1.kb.trans k2.kb⟩
  · obtain ⟨j1, j2⟩ := w2 (by omega)
    have hwo := win_open (t := t) j1 j2
    have e3 : ∀ h, CL g lf n fn_impl_exchanged [.int .i64 (t : Int)] h = some (.int .i64 ((3 - t : Nat) : Int), h) := fun h => exchanged_W g lf n (by omega) h hT
    repeat (first | with_reducible refine wF ?_ | (with_reducible refine wbd (fSt0 _) ?_) | (with_reducible refine wia30 ?_) | (with_reducible refine wbd (ld1 (by assumption) rfl) ?_))
    refine loopW (fun m' st => ∃ (r : Nat) (h3 : PHeap), st = impl_search_solved.st0 (.ptr s 0) (.ptr id 0) (.int .i64 (r : Int)) h3 ∧ r < 2 ^ 9 ∧ (∀ k, r.testBit k = true → f.testBit k = true) ∧ (∀ k, f.testBit k = true → r.testBit k = false → winN R C (putA t k a) (putB t k b) (3 - t) ≠ t) ∧
      At h3 id (stC f a b t) ∧ Sch R C h3 s m ∧ Tab64 g h3 ∧ KB m h2 h3 ∧ m' = r) ?_ lf f _ (by omega) ⟨f, h2, rfl, hf9, fun _ h => h, fun k h1 h2 => (by rw [h1] at h2; cases h2), o2, hs2, ht2, KB.refl _ _, rfl⟩
    rintro n1 m1 st ⟨r, h3, rfl, hr, hrf, hno, o3, hs3, ht3, k3, hm⟩ next
    rw [impl_search_solved.body0_eq]
    unfold impl_search_solved.body0
    simp only [env_C, env_load, env_bin, env_fieldAddr]
    by_cases e4 : r = 0
    · subst e4
      have e3' := e3 h3
      repeat (first | with_reducible refine wF ?_ | with_reducible refine wrI ?_ | with_reducible refine wbd (by assumption) ?_ | (with_reducible refine wbd (fSt1 _) ?_) | (with_reducible refine wbd (ld1 (by assumption) rfl) ?_) | with_reducible refine wneqF (by omega) ?_ | rw [kLoop_exit] | rw [impl_search_solved.after0_se0_0_3_6_17] | dsimp only | simp only [env_C, env_Y, env_g, env_lf, env_pick, env_alloc, env_box, env_build, env_buildSlice, env_load, env_store, env_ptr, env_bin, env_un, env_conv, env_make, env_slice, env_fieldAddr, env_field, env_indexAddr, env_index, env_extract, env_len, env_append, env_max, env_min, env_makeMap, env_lookup, env_update, env_clos, env_bstr, env_ext])
      refine W.ret ⟨?_, hs3, (k1.kb.trans k2.kb).trans k3⟩
      have hmv : moveB R C a b t = false := by
        cases hh : moveB R C a b t with
        | false => rfl
        | true =>
          obtain ⟨k, c1, c2, c3⟩ := moveB_iff.1 hh
          exact absurd c3 (hno k ((hfree k).2 ⟨c1, c2⟩) (Nat.zero_testBit _))
      rw [hwo, hmv]; rfl
    · have el := leastIn_W g lf hr e4 hbig ht3 n (by omega)
      obtain ⟨c1, c2, c3, c4⟩ := low_ok hr e4
      obtain ⟨d1, d2⟩ := f_drop hr e4
      have hlt := without_less hr e4
      have hwl := without_lt9 (k := lowN r) hr
      obtain ⟨k, hk⟩ : ∃ k, k = lowN r := ⟨_, rfl⟩
      rw [← hk] at el c1 c2 d2 hlt hwl
      have hkf := hrf k c1
      have hfr' := fr_put' hst hkf
      have hst' := hst.put hkf
      repeat (first | with_reducible refine wT ?_ | with_reducible refine wck plain_int ?_ | with_reducible refine wbd (by assumption) ?_ | (with_reducible refine wbd (fSt1 _) ?_) | (with_reducible refine wbd (ld1 (by assumption) rfl) ?_) | (with_reducible refine wbd (ldS (by assumption)) ?_) | (with_reducible refine wck plainS ?_) | with_reducible refine wneqT (by omega) ?_ | dsimp only)
      refine wcall (after_W g lf hf9 l9.1 l9.2 c2 hT n (by omega) h3) fun v h4 ⟨hv, k4⟩ => ?_
      subst hv
      have o4 := o3.keep k4
      have hs4 := hs3.keep k4
      have ht4 := ht3.keep k4
      repeat (first | with_reducible refine wck plain_int ?_ | (with_reducible refine wbd (ld1 (by assumption) rfl) ?_) | (with_reducible refine wbd (ldS (by assumption)) ?_) | (with_reducible refine wck plainS ?_) | dsimp only)
      refine wcall (ih (B - 1) (by omega) _ _ _ _ n h4 (by omega) hst' (by omega) hs4 ht4) fun v h5 ⟨hv, hs5, k5⟩ => ?_
      subst hv
      have o5 := o4.kb k5 (hs4.ne o4)
      have ht5 := ht4.kb hs4 k5
      repeat (first | with_reducible refine wck plain_int ?_ | (with_reducible refine wbd (ld1 (by assumption) rfl) ?_) | (with_reducible refine wbd (ldS (by assumption)) ?_) | (with_reducible refine wck plainS ?_) | dsimp only)
      refine weql (fun e5 => ?_) (fun e5 => ?_)
      · repeat (first | with_reducible refine wT ?_ | with_reducible refine wrI ?_ | (with_reducible refine wbd (fSt1 _) ?_) | (with_reducible refine wbd (ld1 (by assumption) rfl) ?_) | rw [kLoop_ret] | rw [impl_search_solved.K0_ret] | rw [impl_search_solved.top_sr_4])
        refine W.ret ⟨?_, hs5, ((k1.kb.trans k2.kb).trans k3).trans (k4.kb.trans k5)⟩
        obtain ⟨q1, q2⟩ := (hfree k).1 hkf
        have hmv : moveB R C a b t = true := moveB_iff.2 ⟨k, q1, q2, by omega⟩
        rw [hwo, hmv]; rfl
      · repeat (first | with_reducible refine wF ?_ | with_reducible refine wbd (by assumption) ?_)
        refine next _ _ (hm ▸ hlt) ⟨_, h5, rfl, hwl, fun j hj => ?_, fun j hj1 hj2 => ?_, o5, hs5, ht5, k3.trans (k4.kb.trans k5), rfl⟩
        · rw [without_bit, Bool.and_eq_true] at hj; exact hrf j hj.1
        · by_cases hjk : j = k
          · subst hjk; omega
          · rw [without_bit] at hj2
            simp only [ne_eq, hjk, not_false_eq_true, decide_true, Bool.and_true] at hj2
            exact hno j hj1 hj2

theorem sWinner_W {R C s m : Nat} (hB : BoardOf R C) (hbig : Big g) (hlf : 1000 < lf) (B : Nat) : WinOk g lf R C s m B := by
  induction B using Nat.strongRecOn with
  | _ B ih =>
  intro f a b t N h hfr hst hN hs ht
  obtain ⟨n, rfl⟩ : ∃ n, N = n + 1 := ⟨N - 1, by omega⟩
  rw [impl_search_winner.call_eq]
  unfold impl_search_winner.main
  simp only [env_C, env_box, env_load, env_ptr, env_un, env_fieldAddr, env_extract, env_lookup, env_update]
  refine wboxS fun h1 id o1 k1 l1 => ?_
  have hs1 := hs.keep k1
  have ht1 := ht.keep k1
  obtain ⟨sa, es, ma, mm⟩ := _root_.id hs1
  have hlook := look_st hB ma mm hst
  repeat (first | with_reducible refine wptr ?_ | with_reducible refine wbd (by assumption) ?_ | (with_reducible refine wbd (fs3 _) ?_) | (with_reducible refine wbd (ldS (by assumption)) ?_) | (with_reducible refine wbd (ldM (by assumption) (srch_map _ _ _)) ?_) | dsimp only)
  cases hfd : findM es (stP f a b t) with
  | some v =>
    have hv := memo_find mm hfd
    subst hv
    refine wx0 ?_
    refine wx1 ?_
    repeat (first | with_reducible refine wF ?_ | with_reducible refine wnT ?_ | with_reducible refine wrI ?_)
    exact W.ret ⟨rfl, hs1, k1.kb⟩
  | none =>
    refine wx0 ?_
    refine wx1 ?_
    repeat (first | with_reducible refine wT ?_ | with_reducible refine wnF ?_ | (with_reducible refine wbd (ldS (by assumption)) ?_))
    refine wcall (solved_W g lf hB hbig hlf ih hfr hst n (by omega) hs1 ht1) fun v h2 ⟨hv, hs2, k2⟩ => ?_
    subst hv
    have o2 := o1.kb k2 (hs1.ne o1)
    obtain ⟨sa2, es2, ma2, mm2⟩ := _root_.id hs2
    repeat (first | with_reducible refine wptr ?_ | (with_reducible refine wbd (fs3 _) ?_) | (with_reducible refine wbd (ldS (by assumption)) ?_) | (with_reducible refine wbd (ldM (by assumption) (srch_map _ _ _)) ?_) | dsimp only)
    refine wbd (upd_st hB ma2 mm2 hst _) ?_
    have ma3 : MapAt (h2.set m (.mp (putM es2 (stP f a b t) (.int .i64 (winN R C a b t : Int))))) m (putM es2 (stP f a b t) (.int .i64 (winN R C a b t : Int))) := by
      unfold MapAt; rw [List.getElem?_set_self ma2.lt]
    have k3 : KB m h2 (h2.set m (.mp (putM es2 (stP f a b t) (.int .i64 (winN R C a b t : Int))))) := ⟨by simp, fun i _ hn => List.getElem?_set_ne (by omega)⟩
    generalize h2.set m (.mp (putM es2 (stP f a b t) (.int .i64 (winN R C a b t : Int)))) = h3 at ma3 k3 ⊢
    have sa3 := sa2.kb k3 (sa2.ne ma2)
    repeat (first | with_reducible refine wrI ?_)
    exact W.ret ⟨rfl, ⟨sa3, _, ma3, memo_put hst mm2⟩, (k1.kb.trans k2).trans k3⟩

end Go.Proofs.YtpaehbfknlpkbadDoor

/- The program's search: made for a board, begun at a position; the moves by which one wins. -/
set_option maxRecDepth 20000
namespace Go.Proofs.YtpaehbfknlpkbadDoor
open Go Go.Ip G

variable (g : Nat → PV) (lf n : Nat)

/-! ### a search is made -/
def slotV (R C i p j : Nat) : Nat :=
  if j < 9 then (if j < i then nearV R C j else 0) else if j = 10 ∧ 2 ≤ p then sideN R C 1 false else if j = 11 ∧ 3 ≤ p then sideN R C 2 false else if j = 13 ∧ 2 ≤ p then sideN R C 1 true else if j = 14 ∧ 3 ≤ p then sideN R C 2 true else 0
def fillC (R C m i p : Nat) : List PV := ((List.range 15).map (slotV R C i p)).map (fun x : Nat => .int .i64 (x : Int)) ++ [.mapv m]
theorem fillC_length (R C m i p : Nat) : (fillC R C m i p).length = 16 := by simp [fillC]
theorem fill_done (R C m : Nat) : fillC R C m (R * C) 3 = srchC R C m := by
  have hn : ∀ j ∈ List.range 9, slotV R C (R * C) 3 j = nearV R C j := fun j hj => by
    have hj := List.mem_range.1 hj
    unfold slotV nearV
    rw [if_pos hj]
    by_cases h : j < R * C <;> simp [h]
  unfold fillC srchC srchV
  rw [show List.range 15 = List.range 9 ++ [9, 10, 11, 12, 13, 14] from rfl, List.map_append, List.map_congr_left hn]
  rfl
theorem fill_near {R C m i p : Nat} (hi : i < 9) : (fillC R C m i p).set (0 + i) (.int .i64 (nearV R C i : Int)) = fillC R C m (i + 1) p := by
  unfold fillC
  rw [Nat.zero_add, List.set_append_left _ _ (by simp; omega), ← List.map_set]
  congr 2
  apply List.ext_getElem (by simp)
  intro j h1 h2
  simp only [List.getElem_set, List.getElem_map, List.getElem_range]
  unfold slotV
  by_cases e : i = j
  · subst e; rw [if_pos rfl, if_pos hi, if_pos (by omega)]
  · rw [if_neg e]
    by_cases h9 : j < 9
    · rw [if_pos h9, if_pos h9]
      by_cases h : j < i
      · rw [if_pos h, if_pos (by omega)]
      · rw [if_neg h, if_neg (by omega)]
    · rw [if_neg h9, if_neg h9]
theorem fill_one (R C m i : Nat) : ((fillC R C m i 1).set (9 + 1) (.int .i64 (sideN R C 1 false : Int))).set (12 + 1) (.int .i64 (sideN R C 1 true : Int)) = fillC R C m i 2 := by rfl
theorem fill_two (R C m i : Nat) : ((fillC R C m i 2).set (9 + 2) (.int .i64 (sideN R C 2 false : Int))).set (12 + 2) (.int .i64 (sideN R C 2 true : Int)) = fillC R C m i 3 := by rfl
theorem bldS (m : Nat) : buildP Tryd.prog 72 [(3, .mapv m)] = some (.agg (fillC 1 1 m 0 1)) := by kernel_rfl
theorem fill_zero (R C m : Nat) : fillC 1 1 m 0 1 = fillC R C m 0 1 := by
  unfold fillC
  congr 2

theorem wmkM {Q : PV → PHeap → Prop} {h : PHeap} {F : PV × PHeap → Res} (hf : ∀ h' m, MapAt h' m [] → Keep h.length h h' → h.length ≤ m → W (F (.mapv m, h')) Q) : W ((makeMapP none h).bind F) Q :=
  hf _ _ (by unfold MapAt; simp) (Keep.append _ _ _ (Nat.le_refl _)) (Nat.le_refl _)

theorem newSearch_W {R C : Nat} (hB : BoardOf R C) (N : Nat) (hN : 7 ≤ N) (hlf : 1000 < lf) {h : PHeap} (ht : Tab g h) :
    W (CL g lf N fn_impl_newSearch [.int .i64 (R : Int), .int .i64 (C : Int)] h) fun v h' => ∃ s m, v = .ptr s 0 ∧ Sch R C h' s m ∧ Keep h.length h h' ∧ h.length ≤ s ∧ h.length ≤ m := by
  obtain ⟨n, rfl⟩ : ∃ n, N = n + 1 := ⟨N - 1, by omega⟩
  obtain ⟨b1, b2, b3, b4, h9⟩ := id hB
  rw [impl_newSearch.call_eq]
  unfold impl_newSearch.main
  simp only [env_lf, env_box, env_build, env_bin, env_makeMap]
  refine wmkM fun h1 m ma k1 lm => ?_
  refine wbd (bldS m) ?_
  refine wnew (l := fillC 1 1 m 0 1) (by rfl) fun h2 s o2 k2 ls => ?_
  dsimp only at k2 ls ⊢
  rw [fill_zero R C] at o2
  have ma2 := ma.keep k2
  have kk := k1.trans (k2.mono k1.1)
  have lss : h.length ≤ s := Nat.le_trans k1.1 ls
  have hRC : R * C < 4611686018427387904 := by omega
  repeat (first | with_reducible refine wmulN (by omega) ?_)
  refine loopW (fun m' st => ∃ (i : Nat) (h3 : PHeap), st = impl_newSearch.st0 (.int .i64 (R : Int)) (.int .i64 (C : Int)) (.ptr s 0) (.int .i64 ((R * C : Nat) : Int)) (.int .i64 (i : Int)) h3 ∧ i + m' = R * C ∧ At h3 s (fillC R C m i 1) ∧ MapAt h3 m [] ∧ Keep h.length h h3) ?_ lf (R * C) _ (by omega) ⟨0, h2, rfl, by omega, o2, ma2, kk⟩
  rintro n1 m1 st ⟨i, h3, rfl, him, o3, ma3, k3⟩ next
  rw [impl_newSearch.body0_eq]
  unfold impl_newSearch.body0
  simp only [env_C, env_store, env_ptr, env_bin, env_fieldAddr, env_indexAddr]
  cases m1 with
  | succ m1 =>
    have hi : i < 9 := by omega
    have hsl := shl_lt hi
    have hnv : wideN R C (1 <<< i) = nearV R C i := by unfold nearV; rw [if_pos (by omega)]
    obtain ⟨h4, e4, k4⟩ := withNear_calls g lf b1 b2 b3 b4 h9 hsl n (by omega) (by omega) (ht.keep k3)
    have o4 := o3.keep k4
    rw [hnv] at e4
    repeat (first | with_reducible refine wT ?_ | with_reducible refine wptr ?_ | with_reducible refine wbd (by assumption) ?_ | (with_reducible refine wbd (fs0 _) ?_) | (with_reducible refine wia9 hi ?_) | with_reducible refine wshl (by omega) ?_ | with_reducible refine wlssT (by omega) ?_ | dsimp only)
    refine wst1 o4 (by rw [fillC_length]; omega) fun h5 o5 k5 => ?_
    rw [fill_near hi] at o5
    have ma5 := (ma3.keep k4).kb k5 (o4.ne (ma3.keep k4)).symm
    repeat (first | with_reducible refine wadd1 (by omega) ?_)
    exact next _ _ (Nat.lt_succ_self m1) ⟨i + 1, h5, rfl, by omega, o5, ma5, (k3.trans (k4.mono k3.1)).kbs (Nat.le_refl _) k5 lss⟩
  | zero =>
    have hiR : i = R * C := by omega
    subst hiR
    repeat (first | with_reducible refine wF ?_ | with_reducible refine wlssF (by omega) ?_ | rw [kLoop_exit] | rw [impl_newSearch.after0_se0_0_1_5_13_14_15] | simp only [env_C, env_Y, env_g, env_lf, env_pick, env_alloc, env_box, env_build, env_buildSlice, env_load, env_store, env_ptr, env_bin, env_un, env_conv, env_make, env_slice, env_fieldAddr, env_field, env_indexAddr, env_index, env_extract, env_len, env_append, env_max, env_min, env_makeMap, env_lookup, env_update, env_clos, env_bstr, env_ext])
    refine loopW (fun m' st => ∃ (P : Nat) (h4 : PHeap), st = impl_newSearch.st1 (.int .i64 (R : Int)) (.int .i64 (C : Int)) (.ptr s 0) (.int .i64 (P : Int)) h4 ∧ P + m' = 3 ∧ 1 ≤ P ∧ At h4 s (fillC R C m (R * C) P) ∧ MapAt h4 m [] ∧ Keep h.length h h4) ?_ lf 2 _ (by omega) ⟨1, h3, rfl, rfl, by decide, o3, ma3, k3⟩
    rintro n2 m2 st ⟨P, h4, rfl, hPm, hP1, o4, ma4, k4⟩ next2
    have hP : P = 1 ∨ P = 2 ∨ P = 3 := by omega
    have e1 := fun h => sidesOf_W g lf hB (P := 1) (.inl rfl) n (by omega) hlf h
    have e2 := fun h => sidesOf_W g lf hB (P := 2) (.inr rfl) n (by omega) hlf h
    rw [impl_newSearch.body1_eq]
    unfold impl_newSearch.body1
    simp only [env_C, env_store, env_ptr, env_bin, env_fieldAddr, env_indexAddr, env_extract]
    rcases hP with rfl | rfl | rfl
    · have e1' := e1 h4
      repeat (first | with_reducible refine wT ?_ | with_reducible refine wx0 ?_ | with_reducible refine wx1 ?_ | with_reducible refine wptr ?_ | with_reducible refine wbd (by assumption) ?_ | (with_reducible refine wbd (fs1 _) ?_) | (with_reducible refine wbd (fs2 _) ?_) | (with_reducible refine wia3 (by omega) ?_) | with_reducible refine wleqT (by omega) ?_ | dsimp only)
      refine wst1 o4 (by rw [fillC_length]; decide) fun h5 o5 k5 => ?_
      repeat (first | (with_reducible refine wia3 (by omega) ?_))
      refine wst1 o5 (by rw [List.length_set, fillC_length]; decide) fun h6 o6 k6 => ?_
      rw [fill_one] at o6
      repeat (first | with_reducible refine wadd1 (by omega) ?_)
      exact next2 _ _ (show 1 < m2 by omega) ⟨2, h6, rfl, rfl, by decide, o6, (ma4.kb k5 (o4.ne ma4).symm).kb k6 (o4.ne ma4).symm, (k4.kbs (Nat.le_refl _) k5 lss).kbs (Nat.le_refl _) k6 lss⟩
    · have e2' := e2 h4
      repeat (first | with_reducible refine wT ?_ | with_reducible refine wx0 ?_ | with_reducible refine wx1 ?_ | with_reducible refine wptr ?_ | with_reducible refine wbd (by assumption) ?_ | (with_reducible refine wbd (fs1 _) ?_) | (with_reducible refine wbd (fs2 _) ?_) | (with_reducible refine wia3 (by omega) ?_) | with_reducible refine wleqT (by omega) ?_ | dsimp only)
      refine wst1 o4 (by rw [fillC_length]; decide) fun h5 o5 k5 => ?_
      repeat (first | (with_reducible refine wia3 (by omega) ?_))
      refine wst1 o5 (by rw [List.length_set, fillC_length]; decide) fun h6 o6 k6 => ?_
      rw [fill_two] at o6
      repeat (first | with_reducible refine wadd1 (by omega) ?_)
      exact next2 _ _ (show 0 < m2 by omega) ⟨3, h6, rfl, rfl, by decide, o6, (ma4.kb k5 (o4.ne ma4).symm).kb k6 (o4.ne ma4).symm, (k4.kbs (Nat.le_refl _) k5 lss).kbs (Nat.le_refl _) k6 lss⟩
    · repeat (first | with_reducible refine wF ?_ | with_reducible refine wrP ?_ | with_reducible refine wleqF (by omega) ?_ | rw [kLoop_exit] | rw [impl_newSearch.after1_se2_0_1_5_7_29])
      rw [fill_done] at o4
      exact W.ret ⟨s, m, rfl, ⟨o4, [], ma4, fun p hp => by cases hp⟩, k4, lss, Nat.le_trans (Nat.le_refl _) lm⟩

/-! ### where it begins -/
theorem bldSt (t : Nat) : buildP Tryd.prog 58 [(1, .int .i64 (t : Int))] = some (stP 0 0 0 t) := by kernel_rfl
theorem standingOf_W {xs : List Int} {p : PV} {h : PHeap} (hp : IntSl .i64 h p xs) (hl : xs.length ≤ 20) (t : Nat) (N : Nat) (hN : 2 ≤ N) (hlf : 1000 < lf) :
    W (CL g lf N fn_impl_standingOf [p, .int .i64 (t : Int)] h) fun v h' => v = stP (setL xs 0) (setL xs 1) (setL xs 2) t ∧ Keep h.length h h' := by
  obtain ⟨n, rfl⟩ : ∃ n, N = n + 1 := ⟨N - 1, by omega⟩
  rw [impl_standingOf.call_eq]
  unfold impl_standingOf.main
  simp only [env_lf, env_alloc, env_build, env_store]
  refine walS fun h1 id1 o1 k1 l1 => ?_
  refine wbd (bldSt t) ?_
  dsimp only
  refine walS fun h2 id2 o2 k2 l2 => ?_
  dsimp only
  have o1' := o1.keep k2
  have hne : id1 ≠ id2 := by have := o1.lt; omega
  refine wstS o2 fun h3 o3 k3 => ?_
  have o13 := o1'.kb k3 hne
  have kk : Keep h.length h h3 := (k1.trans (k2.mono k1.1)).kbs (Nat.le_refl _) k3 (Nat.le_trans k1.1 l2)
  have ll2 : h.length ≤ id2 := Nat.le_trans k1.1 l2
  refine loopW (fun m' st => ∃ (P u v w : Nat) (h4 : PHeap), st = impl_standingOf.st0 p (.ptr id1 0) (.ptr id2 0) (.int .i64 (P : Int)) h4 ∧ P + m' = 3 ∧ At h4 id2 (stC u v w t) ∧ At h4 id1 (stC 0 0 0 0) ∧ Keep h.length h h4 ∧ (1 ≤ P → u = setL xs 0) ∧ (2 ≤ P → v = setL xs 1) ∧ (3 ≤ P → w = setL xs 2)) ?_ lf 3 _ (by omega) ⟨0, 0, 0, 0, h3, rfl, rfl, o3, o13, kk, by omega, by omega, by omega⟩
  rintro n1 m1 st ⟨P, u, v, w, h4, rfl, hPm, o4, o14, k4, hu, hv, hw⟩ next
  have hP : P = 0 ∨ P = 1 ∨ P = 2 ∨ P = 3 := by omega
  have hp4 := hp.keep k4
  have e0 := setOf_W g lf ((0 : Nat) : Int) hp4 hl n (by omega) hlf
  have e1 := setOf_W g lf ((1 : Nat) : Int) hp4 hl n (by omega) hlf
  have e2 := setOf_W g lf ((2 : Nat) : Int) hp4 hl n (by omega) hlf
  rw [impl_standingOf.body0_eq]
  unfold impl_standingOf.body0
  simp only [env_C, env_store, env_bin, env_fieldAddr, env_indexAddr]
  rcases hP with rfl | rfl | rfl | rfl
  · repeat (first | with_reducible refine wT ?_ | with_reducible refine wbd (by assumption) ?_ | (with_reducible refine wbd (fSt0 _) ?_) | (with_reducible refine wia3 (by omega) ?_) | with_reducible refine wlssT (by omega) ?_ | dsimp only)
    refine wst1 o4 (show 0 + 0 < 4 by decide) fun h5 o5 k5 => ?_
    repeat (first | with_reducible refine wadd1 (by omega) ?_)
    exact next _ _ (show 2 < m1 by omega) ⟨1, setL xs 0, v, w, h5, rfl, rfl, o5, o14.kb k5 hne, k4.kbs (Nat.le_refl _) k5 ll2, fun _ => rfl, by omega, by omega⟩
  · repeat (first | with_reducible refine wT ?_ | with_reducible refine wbd (by assumption) ?_ | (with_reducible refine wbd (fSt0 _) ?_) | (with_reducible refine wia3 (by omega) ?_) | with_reducible refine wlssT (by omega) ?_ | dsimp only)
    refine wst1 o4 (show 0 + 1 < 4 by decide) fun h5 o5 k5 => ?_
    repeat (first | with_reducible refine wadd1 (by omega) ?_)
    exact next _ _ (show 1 < m1 by omega) ⟨2, u, setL xs 1, w, h5, rfl, rfl, o5, o14.kb k5 hne, k4.kbs (Nat.le_refl _) k5 ll2, fun _ => hu (by decide), fun _ => rfl, by omega⟩
  · repeat (first | with_reducible refine wT ?_ | with_reducible refine wbd (by assumption) ?_ | (with_reducible refine wbd (fSt0 _) ?_) | (with_reducible refine wia3 (by omega) ?_) | with_reducible refine wlssT (by omega) ?_ | dsimp only)
    refine wst1 o4 (show 0 + 2 < 4 by decide) fun h5 o5 k5 => ?_
    repeat (first | with_reducible refine wadd1 (by omega) ?_)
    exact next _ _ (show 0 < m1 by omega) ⟨3, u, v, setL xs 2, h5, rfl, rfl, o5, o14.kb k5 hne, k4.kbs (Nat.le_refl _) k5 ll2, fun _ => hu (by decide), fun _ => hv (by decide), fun _ => rfl⟩
  · repeat (first | with_reducible refine wF ?_ | (with_reducible refine wbd (ldS (by assumption)) ?_) | with_reducible refine wlssF (by omega) ?_ | rw [kLoop_exit] | rw [impl_standingOf.after0_se0_0_4_5_9_10] | simp only [env_C, env_Y, env_g, env_lf, env_pick, env_alloc, env_box, env_build, env_buildSlice, env_load, env_store, env_ptr, env_bin, env_un, env_conv, env_make, env_slice, env_fieldAddr, env_field, env_indexAddr, env_index, env_extract, env_len, env_append, env_max, env_min, env_makeMap, env_lookup, env_update, env_clos, env_bstr, env_ext])
    refine wstS o14 fun h5 o5 k5 => ?_
    repeat (first | (with_reducible refine wbd (ldS (by assumption)) ?_))
    exact W.ret ⟨by rw [hu (by decide), hv (by decide), hw (by decide)], k4.kbs (Nat.le_refl _) k5 l1⟩

theorem stands_of {R C T : Nat} {xs : List Int} (hS : Sides (R : Int) (C : Int) R C xs) (hT : T = 1 ∨ T = 2) : Stands R C (setL xs 0) (setL xs 1) (setL xs 2) T := by
  refine ⟨pos_sets hS, set_lt9 hS 0, fun k => ?_, hT⟩
  rw [setL_bit]
  constructor
  · intro hk
    have hkl := set_in hS (setL_bit.2 hk)
    exact ⟨hkl, (free_bit hS hkl).2 hk⟩
  · rintro ⟨h1, h2⟩; exact (free_bit hS h1).1 h2

end Go.Proofs.YtpaehbfknlpkbadDoor

/- The program's chapter 3: MoveOk, Played, WinnerOf, WinningCells and LinePlayed compute what the model's do. -/
set_option maxRecDepth 20000
namespace Go.Proofs.YtpaehbfknlpkbadDoor
open Go Go.Ip G

variable (g : Nat → PV) (lf n : Nat)

/-! ### moves -/
theorem moveOk_W (hlf : 1000 < lf) (N : Nat) (hN : 30 ≤ N) (r c k pl : Int) {xs : List Int} {p : PV} {h : PHeap} (ht : TabOk g h) (hp : IntSl .i64 h p xs) (hl : xs.length ≤ 2 ^ 35) (hf : xs.length < lf) :
    ∃ h', CL g lf N fn_impl_MoveOk [.int .i64 r, .int .i64 c, p, .int .i64 k, .int .i64 pl] h = some (.bool (moveL r c xs k pl), h') ∧ Keep h.length h h' := by
  obtain ⟨n, rfl⟩ : ∃ n, N = n + 1 := ⟨N - 1, by omega⟩
  have hpos := positionOk_N g lf n (by omega) r c hp (by omega) hf
  have hplay := playerOk_W g lf n (by omega) h pl
  have hcell := cellOk_N g lf n (by omega) h r c k
  have : W (CL g lf (n + 1) fn_impl_MoveOk [.int .i64 r, .int .i64 c, p, .int .i64 k, .int .i64 pl] h) fun v h' => v = .bool (moveL r c xs k pl) ∧ Keep h.length h h' := by
    rw [impl_MoveOk.call_eq]
    unfold impl_MoveOk.main
    simp only [env_C, env_pick, env_load, env_bin, env_un, env_indexAddr]
    unfold moveL
    cases hb : posB r c xs with
    | false =>
      rw [hb] at hpos
      repeat (first | with_reducible refine wT ?_ | with_reducible refine wg0 rfl ?_ | with_reducible refine wpT ?_ | with_reducible refine wnF ?_ | with_reducible refine wsm ?_ | with_reducible refine wrB ?_ | with_reducible refine wbd (by assumption) ?_ | dsimp only)
      exact W.ret ⟨rfl, Keep.refl _ _⟩
    | true =>
      rw [hb] at hpos
      cases hpl : playerB pl with
      | false =>
        rw [hpl] at hplay
        repeat (first | with_reducible refine wT ?_ | with_reducible refine wg1 rfl ?_ | with_reducible refine wg0 rfl ?_ | with_reducible refine wpT ?_ | with_reducible refine wpF ?_ | with_reducible refine wnT ?_ | with_reducible refine wnF ?_ | with_reducible refine wpv ?_ | with_reducible refine wsm ?_ | with_reducible refine wrB ?_ | with_reducible refine wbd (by assumption) ?_ | dsimp only)
        exact W.ret ⟨rfl, Keep.refl _ _⟩
      | true =>
        rw [hpl] at hplay
        obtain ⟨R, C, hS⟩ := sides_of hb
        obtain ⟨rfl, rfl, _, _, _, _, h9, hlen, _⟩ := id hS
        have hbb : boardB (R : Int) (C : Int) = true := by unfold posB at hb; simp only [Bool.and_eq_true] at hb; exact hb.1.1
        have hcb : cellB (R : Int) (C : Int) k = decide (0 ≤ k ∧ k < (xs.length : Int)) := by
          unfold cellB; rw [hbb, hlen, Bool.true_and]; rfl
        rw [hcb] at hcell
        cases hk : decide (0 ≤ k ∧ k < (xs.length : Int)) with
        | false =>
          rw [hk] at hcell
          repeat (first | with_reducible refine wT ?_ | with_reducible refine wg1 rfl ?_ | with_reducible refine wpF ?_ | with_reducible refine wnT ?_ | with_reducible refine wnF ?_ | with_reducible refine wpv ?_ | with_reducible refine wsm ?_ | with_reducible refine wrB ?_ | with_reducible refine wbd (by assumption) ?_ | dsimp only)
          exact W.ret ⟨rfl, Keep.refl _ _⟩
        | true =>
          rw [hk] at hcell
          have hkb := of_decide_eq_true hk
          obtain ⟨K, rfl⟩ := Int.eq_ofNat_of_zero_le hkb.1
          have hK : K < xs.length := by omega
          have hgd : xs.getD (K : Int).toNat 0 = xs[K] := by
            rw [show ((K : Int).toNat) = K from rfl, List.getD_eq_getElem?_getD, List.getElem?_eq_getElem hK]; rfl
          rw [hgd]
          obtain ⟨h1, e1, k1⟩ := joinsOk g lf hlf n (by omega) R C 1 ht hp hl hf
          obtain ⟨h2, e2, k2⟩ := joinsOk g lf hlf n (by omega) R C 2 (ht.keep k1) (hp.keep k1) hl hf
          repeat (first | with_reducible refine wF ?_ | with_reducible refine wg1 rfl ?_ | with_reducible refine wpF ?_ | with_reducible refine wnT ?_ | with_reducible refine wpv ?_ | with_reducible refine wsm ?_ | with_reducible refine wbd (by assumption) ?_ | (with_reducible refine wat hp hK fun a hl => ?_) | dsimp only)
          refine weql (fun e => ?_) (fun e => ?_)
          · rw [decide_eq_true e]
            cases hj1 : joinsL (R : Int) (C : Int) xs 1 with
            | true =>
              rw [hj1] at e1
              repeat (first | with_reducible refine wg1 rfl ?_ | with_reducible refine wg0 rfl ?_ | with_reducible refine wpT ?_ | with_reducible refine wpF ?_ | with_reducible refine wnT ?_ | with_reducible refine wpv ?_ | with_reducible refine wsm ?_ | with_reducible refine wrB ?_ | with_reducible refine wbd (by assumption) ?_ | dsimp only)
              exact W.ret ⟨by simp, k1⟩
            | false =>
              rw [hj1] at e1
              cases hj2 : joinsL (R : Int) (C : Int) xs 2 with
              | true =>
                rw [hj2] at e2
                repeat (first | with_reducible refine wg1 rfl ?_ | with_reducible refine wpT ?_ | with_reducible refine wnT ?_ | with_reducible refine wnF ?_ | with_reducible refine wpv ?_ | with_reducible refine wsm ?_ | with_reducible refine wrB ?_ | with_reducible refine wbd (by assumption) ?_ | dsimp only)
                exact W.ret ⟨by simp, k1.trans (k2.mono k1.1)⟩
              | false =>
                rw [hj2] at e2
                repeat (first | with_reducible refine wg1 rfl ?_ | with_reducible refine wpT ?_ | with_reducible refine wnF ?_ | with_reducible refine wpv ?_ | with_reducible refine wsm ?_ | with_reducible refine wrB ?_ | with_reducible refine wbd (by assumption) ?_ | dsimp only)
                exact W.ret ⟨by simp, k1.trans (k2.mono k1.1)⟩
          · rw [decide_eq_false e]
            repeat (first | with_reducible refine wg0 rfl ?_ | with_reducible refine wpF ?_ | with_reducible refine wsm ?_ | with_reducible refine wrB ?_ | dsimp only)
            exact W.ret ⟨by simp, Keep.refl _ _⟩
  obtain ⟨_, h', e, rfl, k⟩ := this
  exact ⟨h', e, k⟩

theorem clone_W {xs : List Int} {p : PV} {h : PHeap} (hp : IntSl .i64 h p xs) (hx : 0 < xs.length) (hl : xs.length ≤ 2 ^ 36) (N : Nat) (hN : 1 ≤ N) :
    W (CL g lf N fn_slices_Clone___int_int_ [p] h) fun q h' => OwnSl h.length h' q xs ∧ Keep h.length h h' := by
  obtain ⟨n, rfl⟩ : ∃ n, N = n + 1 := ⟨N - 1, by omega⟩
  obtain ⟨v, q, h2, e2, e3, o2, k2⟩ := copy_all hp hx hl
  rw [slices_Clone___int_int_.call_eq]
  unfold slices_Clone___int_int_.main
  simp only [env_buildSlice, env_bin, env_append]
  rcases hp with ⟨rfl, rfl⟩ | ⟨id, off, rfl, hc⟩
  · simp at hx
  · refine wnilF ?_
    repeat (first | with_reducible refine wF ?_ | with_reducible refine wbd (by assumption) ?_ | with_reducible refine wresO (by assumption) ?_ | dsimp only)
    exact W.ret ⟨o2, k2⟩

theorem playedOk (hlf : 1000 < lf) : PlayedOk g lf := by
  intro N hN r c k pl xs p h ht hp hl hf
  obtain ⟨n, rfl⟩ : ∃ n, N = n + 1 := ⟨N - 1, by omega⟩
  obtain ⟨h1, e1, k1⟩ := moveOk_W g lf hlf n (by omega) r c k pl ht hp hl hf
  have : W (CL g lf (n + 1) fn_impl_Played [.int .i64 r, .int .i64 c, p, .int .i64 k, .int .i64 pl] h) fun v h' => ∃ q, v = .tup [q, .bool (moveL r c xs k pl)] ∧ OwnSl h.length h' q (playedL r c xs k pl) ∧ Keep h.length h h' := by
    rw [impl_Played.call_eq]
    unfold impl_Played.main
    simp only [env_C, env_store, env_un, env_indexAddr]
    unfold playedL
    cases hm : moveL r c xs k pl with
    | false =>
      rw [hm] at e1
      repeat (first | with_reducible refine wT ?_ | with_reducible refine wnF ?_ | with_reducible refine wrB ?_ | with_reducible refine wrN ?_ | with_reducible refine wbd (by assumption) ?_ | dsimp only)
      exact W.ret ⟨_, rfl, OwnSl.nil _ _, k1⟩
    | true =>
      rw [hm] at e1
      obtain ⟨K, rfl, hK⟩ := moveL_cell hm
      repeat (first | with_reducible refine wF ?_ | with_reducible refine wnT ?_ | with_reducible refine wbd (by assumption) ?_ | dsimp only | simp only [env_C, env_Y, env_g, env_lf, env_pick, env_alloc, env_box, env_build, env_buildSlice, env_load, env_store, env_ptr, env_bin, env_un, env_conv, env_make, env_slice, env_fieldAddr, env_field, env_indexAddr, env_index, env_extract, env_len, env_append, env_max, env_min, env_makeMap, env_lookup, env_update, env_clos, env_bstr, env_ext])
      refine wcall (clone_W g lf (hp.keep k1) (by omega) (by omega) n (by omega)) fun q h2 ⟨o2, k2⟩ => ?_
      repeat (first | with_reducible refine wrB ?_ | (refine wst o2 hK fun h3 o3 k3 l3 a e4 => ?_) | with_reducible refine wresO (by assumption) ?_ | dsimp only)
      skip
      exact W.ret ⟨_, rfl, o3.mono k1.1, k1.trans ((k2.trans k3).mono k1.1)⟩
  obtain ⟨_, h', e, q, rfl, o, k⟩ := this
  exact ⟨q, h', e, o, k⟩

/-! ### who wins -/
/-! ### a line -/
/-- A list of integers at an object of its own. -/
def SlAt (i : Nat) (h : PHeap) (p : PV) (ys : List Int) : Prop := (p = .nilsl ∧ ys = []) ∨ (p = .sl i 0 ys.length ∧ At h i (ys.map (.int .i64)))
theorem SlAt.keep {i : Nat} {h h' : PHeap} {p : PV} {ys : List Int} (s : SlAt i h p ys) (k : Keep h.length h h') : SlAt i h' p ys := by
  rcases s with s | ⟨a, b⟩
  · exact .inl s
  · exact .inr ⟨a, b.keep k⟩
theorem SlAt.kb {i m : Nat} {h h' : PHeap} {p : PV} {ys : List Int} (s : SlAt i h p ys) (k : KB m h h') (hn : i ≠ m) : SlAt i h' p ys := by
  rcases s with s | ⟨a, b⟩
  · exact .inl s
  · exact .inr ⟨a, b.kb k hn⟩
theorem SlAt.own {i n : Nat} {h : PHeap} {p : PV} {ys : List Int} (s : SlAt i h p ys) (hn : n ≤ i) : OwnSl n h p ys := by
  rcases s with s | ⟨a, b⟩
  · exact .inl s
  · exact .inr ⟨i, hn, a, b⟩
theorem wapS {Q : PV → PHeap → Prop} {i : Nat} {h : PHeap} {p : PV} {ys : List Int} (s : SlAt i h p ys) {x : Int} (hl : ys.length + 1 ≤ 2 ^ 36) {F : PV × PHeap → Res}
    (hf : ∀ p' h' j, SlAt j h' p' (ys ++ [x]) → KB i h h' → h.length ≤ j → W (F (p', h')) Q) :
    W ((buildSliceP Tryd.prog 22 1 [(0, .int .i64 x)] h).bind fun v => (appendP Tryd.prog 22 22 p v.1 v.2).bind F) Q := by
  have hb : buildSliceP Tryd.prog 22 1 [(0, .int .i64 x)] h = some (.sl h.length 0 1, h ++ [.own 1 [.int .i64 x]]) := by
    simp [buildSliceP, tyElem, tySize, tyZero, repeatCells, fillP, PV.cells, setCells]
  have hsrc : srcP (h ++ [.own 1 [.int .i64 x]]) 1 (.sl h.length 0 1) = some (1, [.int .i64 x]) := by
    simp [srcP, cellsAt, PObj.get]
  refine wbd hb ?_
  rcases s with ⟨rfl, rfl⟩ | ⟨rfl, h3⟩
  · refine wbd (v := (.sl (h.length + 1) 0 1, h ++ [.own 1 [.int .i64 x]] ++ [.own 1 [.int .i64 x]])) (by simp [appendP, tyElem, tySize, tySmall, hsrc]) ?_
    refine hf _ _ (h.length + 1) (.inr ⟨rfl, ?_⟩) ?_ (by omega)
    · unfold At; rw [List.getElem?_append_right (by simp)]; simp
    · rw [List.append_assoc]; exact (Keep.append _ _ _ (Nat.le_refl _)).kb
  · have hid := h3.lt
    have h3' : (h ++ [PObj.own 1 [.int .i64 x]])[i]? = some (.own 1 (ys.map (.int .i64))) := by rw [List.getElem?_append_left hid]; exact h3
    refine wbd (v := (.sl (h.length + 1) 0 (ys.length + 1), ((h ++ [PObj.own 1 [.int .i64 x]]).set i .dead ++ [PObj.own 1 (ys.map (.int .i64) ++ [.int .i64 x])]))) (by simp [appendP, tyElem, tySize, tySmall, hsrc, h3', hl]) ?_
    refine hf _ _ (h.length + 1) (.inr ⟨by simp, ?_⟩) ?_ (by omega)
    · unfold At; rw [List.getElem?_append_right (by simp)]; simp
    · refine ⟨by simp; omega, fun j hj hne => ?_⟩
      rw [List.getElem?_append_left (by simp; omega), List.getElem?_set_ne (by omega), List.getElem?_append_left hj]
theorem Sch.kbo {R C s m i : Nat} {h h' : PHeap} (hs : Sch R C h s m) (k : KB i h h') (h1 : s ≠ i) (h2 : m ≠ i) : Sch R C h' s m := by
  obtain ⟨a, es, b, c⟩ := hs; exact ⟨a.kb k h1, es, b.kb k h2, c⟩
end Go.Proofs.YtpaehbfknlpkbadDoor

/- The program's chapter 4: PairCell and PairFilled compute what the model's do, and boards that are free or wider. -/
set_option maxRecDepth 20000
namespace Go.Proofs.YtpaehbfknlpkbadDoor
open Go Go.Ip G

/-! ### a number's lowest bit -/
section
variable {Q : PV → PHeap → Prop} {x : Nat} {f : PV → Res}
end

variable (g : Nat → PV) (lf n : Nat)

/-! ### boards that are free, and boards that are wider -/
theorem freeBoard_W (N : Nat) (hN : 3 ≤ N) (h : PHeap) (r c : Int) :
    ∃ q h', CL g lf N fn_impl_freeBoard [.int .i64 r, .int .i64 c] h = some (q, h') ∧ OwnSl h.length h' q (if boardB r c = true then freeL r.toNat c.toNat else []) ∧ Keep h.length h h' := by
  obtain ⟨n, rfl⟩ : ∃ n, N = n + 1 := ⟨N - 1, by omega⟩
  have e1 := boardOk_N g lf n (by omega) h r c
  suffices this : W (CL g lf (n + 1) fn_impl_freeBoard [.int .i64 r, .int .i64 c] h) fun q h' => OwnSl h.length h' q (if boardB r c = true then freeL r.toNat c.toNat else []) ∧ Keep h.length h h' by
    obtain ⟨q, h', e, o, k⟩ := this
    exact ⟨q, h', e, o, k⟩
  rw [impl_freeBoard.call_eq]
  unfold impl_freeBoard.main
  simp only [env_C, env_bin, env_un, env_make]
  cases hb : boardB r c with
  | false =>
    rw [hb] at e1
    repeat (first | with_reducible refine wT ?_ | with_reducible refine wnF ?_ | with_reducible refine wrN ?_ | with_reducible refine wbd (by assumption) ?_ | dsimp only)
    exact W.ret ⟨OwnSl.nil _ _, Keep.refl _ _⟩
  | true =>
    rw [hb] at e1
    obtain ⟨R, C, rfl, rfl, hB⟩ := boardB_of hb
    obtain ⟨h1, h2, h3, h4, h9⟩ := id hB
    repeat (first | with_reducible refine wF ?_ | with_reducible refine wnT ?_ | with_reducible refine wbd (by assumption) ?_ | (refine wmake (by omega) fun q h1 o1 k1 => ?_) | with_reducible refine wmulN (by omega) ?_ | with_reducible refine wresO (by assumption) ?_ | dsimp only | simp only [env_C, env_Y, env_g, env_lf, env_pick, env_alloc, env_box, env_build, env_buildSlice, env_load, env_store, env_ptr, env_bin, env_un, env_conv, env_make, env_slice, env_fieldAddr, env_field, env_indexAddr, env_index, env_extract, env_len, env_append, env_max, env_min, env_makeMap, env_lookup, env_update, env_clos, env_bstr, env_ext])
    exact W.ret ⟨o1, k1⟩

/-! ### partners -/
/-! ### pairs that are shared -/
end Go.Proofs.YtpaehbfknlpkbadDoor

/- What the program's functions of chapter 11 compute: names of cells, records, their ends and texts. -/
set_option maxRecDepth 20000
namespace Go.Proofs.YtpaehbfknlpkbadDoor
open Go Go.Ip G

/-! ### small numbers as texts -/
theorem digs_at {x : Nat} (hx : x < 10) : (([48, 49, 50, 51, 52, 53, 54, 55, 56, 57, 97, 98, 99, 100, 101, 102, 103, 104, 105, 106, 107, 108, 109, 110, 111, 112, 113, 114, 115, 116, 117, 118, 119, 120, 121, 122] : List UInt8).drop x).take (x + 1 - x) = [UInt8.ofNat (48 + x)] := by
  have : x = 0 ∨ x = 1 ∨ x = 2 ∨ x = 3 ∨ x = 4 ∨ x = 5 ∨ x = 6 ∨ x = 7 ∨ x = 8 ∨ x = 9 := by omega
  rcases this with rfl | rfl | rfl | rfl | rfl | rfl | rfl | rfl | rfl | rfl <;> decide
theorem wrap_i32 {x : Nat} (hx : x < 1000) : IntKind.i32.wrap (x : Int) = (x : Int) := by rw [IntKind.wrap_i32]; omega
theorem conv_r32 {x : Nat} (hx : x < 1000) : convP Tryd.prog 3 21 (.int .i64 (x : Int)) = some (.int .i32 (x : Int)) := by
  have h1 : convP Tryd.prog 3 21 (.int .i64 (x : Int)) = some (.int .i32 (IntKind.i32.wrap (x : Int))) := by kernel_rfl
  have h2 : IntKind.i32.wrap (x : Int) = (x : Int) := wrap_i32 hx
  rw [h1, h2]
theorem conv_rs {x : Nat} (hx : x < 128) : convP Tryd.prog 21 9 (.int .i32 (x : Int)) = some (.str (sB [UInt8.ofNat x])) := by
  have h1 : convP Tryd.prog 21 9 (.int .i32 (x : Int)) = if 0 ≤ (x : Int) ∧ (x : Int) < 128 then some (.str (sB [UInt8.ofNat (x : Int).toNat])) else none := by kernel_rfl
  rw [h1, if_pos ⟨by omega, by omega⟩, Int.toNat_natCast]
theorem add97 {x : Nat} (hx : x < 1000) : binP Tryd.prog .add 3 (.int .i64 97) (.int .i64 (x : Int)) = some (.int .i64 ((97 + x : Nat) : Int)) := by
  rw [bin_add, wr (by omega)]; congr 2

variable (g : Nat → PV) (lf n : Nat)

theorem small_N {x : Nat} (hx : x < 10) (N : Nat) (hN : 1 ≤ N) (h : PHeap) : CL g lf N fn_internal_strconv_small [.int .i64 (x : Int)] h = some (.str (sB [UInt8.ofNat (48 + x)]), h) := by
  obtain ⟨n, rfl⟩ : ∃ n, N = n + 1 := ⟨N - 1, by omega⟩
  suffices this : W (CL g lf (n + 1) fn_internal_strconv_small [.int .i64 (x : Int)] h) fun v h' => v = .str (sB [UInt8.ofNat (48 + x)]) ∧ h' = h by
    obtain ⟨_, _, e, rfl, rfl⟩ := this; exact e
  rw [internal_strconv_small.call_eq]
  unfold internal_strconv_small.main
  simp only [env_bin, env_slice]
  repeat (first | with_reducible refine wT ?_ | with_reducible refine wadd1 (by omega) ?_ | with_reducible refine wlssT (by omega) ?_)
  refine wssl (i := x) (j := x + 1) (by omega) (by show _ ≤ 36; omega) ?_
  rw [digs_at hx]
  repeat (first | (with_reducible refine wrT ?_))
  exact W.ret ⟨rfl, rfl⟩
theorem itoa_N {x : Nat} (hx : x < 10) (N : Nat) (hN : 4 ≤ N) (h : PHeap) : CL g lf N fn_strconv_Itoa [.int .i64 (x : Int)] h = some (.str (sB [UInt8.ofNat (48 + x)]), h) := by
  obtain ⟨n, rfl⟩ : ∃ n, N = n + 3 := ⟨N - 3, by omega⟩
  have e0 := small_N g lf hx n (by omega) h
  have e1 : CL g lf (n + 1) fn_internal_strconv_FormatInt [.int .i64 (x : Int), .int .i64 10] h = some (.str (sB [UInt8.ofNat (48 + x)]), h) := by
    suffices this : W (CL g lf (n + 1) fn_internal_strconv_FormatInt [.int .i64 (x : Int), .int .i64 10] h) fun v h' => v = .str (sB [UInt8.ofNat (48 + x)]) ∧ h' = h by
      obtain ⟨_, _, e, rfl, rfl⟩ := this; exact e
    rw [internal_strconv_FormatInt.call_eq]
    unfold internal_strconv_FormatInt.main
    simp only [env_C, env_pick, env_alloc, env_store, env_bin, env_un, env_conv, env_slice, env_indexAddr, env_extract, env_bstr]
    repeat (first | with_reducible refine wT ?_ | with_reducible refine wg1 rfl ?_ | with_reducible refine wpT ?_ | with_reducible refine wpv ?_ | with_reducible refine wsm ?_ | with_reducible refine wbd (by assumption) ?_ | (with_reducible refine wrT ?_) | with_reducible refine wlssT (by omega) ?_ | with_reducible refine wleqT (by omega) ?_ | with_reducible refine weqlT (by omega) ?_ | dsimp only)
    exact W.ret ⟨rfl, rfl⟩
  have e2 : CL g lf (n + 1 + 1) fn_internal_strconv_Itoa [.int .i64 (x : Int)] h = some (.str (sB [UInt8.ofNat (48 + x)]), h) := by
    suffices this : W (CL g lf (n + 1 + 1) fn_internal_strconv_Itoa [.int .i64 (x : Int)] h) fun v h' => v = .str (sB [UInt8.ofNat (48 + x)]) ∧ h' = h by
      obtain ⟨_, _, e, rfl, rfl⟩ := this; exact e
    rw [internal_strconv_Itoa.call_eq]
    unfold internal_strconv_Itoa.main
    simp only [env_C]
    repeat (first | with_reducible refine wbd (by assumption) ?_ | (with_reducible refine wrT ?_) | dsimp only)
    exact W.ret ⟨rfl, rfl⟩
  suffices this : W (CL g lf (n + 1 + 1 + 1) fn_strconv_Itoa [.int .i64 (x : Int)] h) fun v h' => v = .str (sB [UInt8.ofNat (48 + x)]) ∧ h' = h by
    obtain ⟨_, _, e, rfl, rfl⟩ := this; exact e
  rw [strconv_Itoa.call_eq]
  unfold strconv_Itoa.main
  simp only [env_C]
  repeat (first | with_reducible refine wbd (by assumption) ?_ | (with_reducible refine wrT ?_) | dsimp only)
  exact W.ret ⟨rfl, rfl⟩

/-! ### names of cells -/
theorem cellText_N (N : Nat) (hN : 6 ≤ N) (h : PHeap) (r c k : Int) : CL g lf N fn_impl_CellText [.int .i64 r, .int .i64 c, .int .i64 k] h = some (.str (sB (cellT r c k)), h) := by
  obtain ⟨n, rfl⟩ : ∃ n, N = n + 1 := ⟨N - 1, by omega⟩
  have e1 := cellOk_N g lf n (by omega) h r c k
  suffices this : W (CL g lf (n + 1) fn_impl_CellText [.int .i64 r, .int .i64 c, .int .i64 k] h) fun v h' => v = .str (sB (cellT r c k)) ∧ h' = h by
    obtain ⟨_, _, e, rfl, rfl⟩ := this; exact e
  rw [impl_CellText.call_eq]
  unfold impl_CellText.main
  simp only [env_C, env_bin, env_un, env_conv]
  cases hb : cellB r c k with
  | false =>
    rw [hb] at e1
    repeat (first | with_reducible refine wT ?_ | with_reducible refine wnF ?_ | with_reducible refine wbd (by assumption) ?_ | (with_reducible refine wrT ?_) | dsimp only)
    refine W.ret ⟨?_, rfl⟩
    rw [cellT_out]
    rintro ⟨a1, a2, a3⟩
    unfold cellB at hb
    rw [a1, decide_eq_true ⟨a2, a3⟩] at hb
    cases hb
  | true =>
    rw [hb] at e1
    have hbb : boardB r c = true := by unfold cellB at hb; rw [Bool.and_eq_true] at hb; exact hb.1
    obtain ⟨R, C, K, rfl, rfl, rfl, b1, b2, b3, b4, b9, hK⟩ := cell_of hb
    have hB : BoardOf R C := ⟨b1, b2, b3, b4, b9⟩
    have hmod := Nat.mod_lt K (show C > 0 by omega)
    have hdiv : K / C ≤ K := Nat.div_le_self K C
    have e2 := itoa_N g lf (x := K / C + 1) (by omega) n (by omega) h
    repeat (first | with_reducible refine wF ?_ | with_reducible refine wnT ?_ | with_reducible refine wbd (by assumption) ?_ | (with_reducible refine wbd (add97 (by omega)) ?_) | (with_reducible refine wbd (conv_r32 (by omega)) ?_) | (with_reducible refine wbd (conv_rs (by omega)) ?_) | (with_reducible refine wsadd (by simp) ?_) | (with_reducible refine wrT ?_) | with_reducible refine wadd1 (by omega) ?_ | with_reducible refine wquoN (by omega) (by omega) ?_ | with_reducible refine wremN (by omega) ?_ | dsimp only)
    refine W.ret ⟨?_, rfl⟩
    rw [cellT_in hB hbb hK, show 48 + (K / C + 1) = 49 + K / C by omega]
    rfl
theorem readCell_W (hlf : 1000 < lf) (N : Nat) (hN : 7 ≤ N) (r c : Int) (s : List UInt8) (h : PHeap) :
    W (CL g lf N fn_impl_ReadCell [.int .i64 r, .int .i64 c, .str (sB s)] h) fun v h' => v = readV (readI r c s) ∧ Keep h.length h h' := by
  obtain ⟨n, rfl⟩ : ∃ n, N = n + 1 := ⟨N - 1, by omega⟩
  obtain ⟨q, h1, e1, o1, k1⟩ := freeBoard_W g lf n (by omega) h r c
  have eT : ∀ k h', CL g lf n fn_impl_CellText [.int .i64 r, .int .i64 c, .int .i64 k] h' = some (.str (sB (cellT r c k)), h') := fun k h' => cellText_N g lf n (by omega) h' r c k
  rw [impl_ReadCell.call_eq]
  unfold impl_ReadCell.main
  simp only [env_C, env_lf, env_len]
  generalize hL : (if boardB r c = true then freeL r.toNat c.toNat else []) = L at o1
  have hLl : L.length = if boardB r c = true then r.toNat * c.toNat else 0 := by
    rw [← hL]; split <;> simp [freeL]
  have hlen := o1.int.len'
  have hL9 : L.length ≤ 9 := by
    rw [hLl]; split
    · rename_i hb
      obtain ⟨R, C, rfl, rfl, hB⟩ := boardB_nat hb
      exact hB.2.2.2.2
    · omega
  repeat (first | with_reducible refine wbd (by assumption) ?_ | dsimp only)
  refine loopW (fun m st => ∃ k : Nat, st = impl_ReadCell.st0 (.int .i64 r) (.int .i64 c) (.str (sB s)) (.int .i64 (L.length : Int)) (.int .i64 (k : Int)) h1 ∧ k + m = L.length ∧ ∀ j, j < k → cellT r c (j : Int) ≠ s) ?_ lf L.length _ (by omega) ⟨0, rfl, by omega, fun j hj => by omega⟩
  rintro n1 m1 st ⟨k, rfl, hkm, hno⟩ next
  rw [impl_ReadCell.body0_eq]
  unfold impl_ReadCell.body0
  simp only [env_C, env_bin]
  have hrd : ∀ k, k ≤ L.length → readI r c s = if boardB r c = true then (List.range L.length).find? (fun k : Nat => decide (cellT r c (k : Int) = s)) else none := by
    intro _ _
    unfold readI
    split
    · rename_i hb
      rw [hLl, if_pos hb]
      obtain ⟨R, C, rfl, rfl, hB⟩ := boardB_nat hb
      rw [← Int.natCast_mul]; rfl
    · rfl
  cases m1 with
  | zero =>
    repeat (first | with_reducible refine wF ?_ | with_reducible refine wrI ?_ | with_reducible refine wrB ?_ | with_reducible refine wlssF (by omega) ?_ | rw [kLoop_exit] | rw [impl_ReadCell.after0_se0_0_1_2_12_13_14])
    refine W.ret ⟨?_, k1⟩
    rw [hrd 0 (by omega)]
    have : (List.range L.length).find? (fun k : Nat => decide (cellT r c (k : Int) = s)) = none := by
      rw [List.find?_eq_none]
      intro j hj
      have := hno j (by have := List.mem_range.1 hj; omega)
      simpa using this
    rw [this]
    split <;> rfl
  | succ m1 =>
    repeat (first | with_reducible refine wT ?_ | (with_reducible refine wbd (eT _ _) ?_) | with_reducible refine wlssT (by omega) ?_ | rw [kLoop_ret] | dsimp only)
    by_cases he : cellT r c (k : Int) = s
    · refine wseqT he ?_
      repeat (first | with_reducible refine wT ?_ | with_reducible refine wrI ?_ | with_reducible refine wrB ?_ | rw [impl_ReadCell.K0_ret] | rw [impl_ReadCell.top_sr_6_7])
      refine W.ret ⟨?_, k1⟩
      have hbb : boardB r c = true := by
        cases hb : boardB r c with
        | true => rfl
        | false => rw [hb, if_neg (by decide)] at hLl; omega
      obtain ⟨R, C, rfl, rfl, hB⟩ := boardB_nat hbb
      have hLR : L.length = R * C := by rw [hLl, if_pos hbb]; rfl
      have hk : k < R * C := by omega
      rw [cellT_in hB hbb hk] at he
      rw [← he, readI_name hB hbb hk]; rfl
    · refine wseqF he ?_
      repeat (first | with_reducible refine wF ?_ | with_reducible refine wadd1 (by omega) ?_)
      refine next _ _ (Nat.lt_succ_self _) ⟨k + 1, rfl, by omega, fun j hj => ?_⟩
      rcases Nat.lt_or_ge j k with hlt | hge
      · exact hno j hlt
      · obtain rfl : j = k := by omega
        exact he
/-! ### the end of a record -/
theorem rec_none {r c : Int} {ms : List Int} (hr : recB r c ms = false) : recTurn r c ms = 0 ∧ recEnd r c ms = [] := by
  refine ⟨by unfold recTurn; rw [hr]; rfl, ?_⟩
  unfold recEnd; split
  · rename_i hb
    unfold recB at hr
    rw [hb, Bool.true_and] at hr
    cases hq : playTo r c (startL r c) 1 ms with
    | none => rfl
    | some y => rw [hq] at hr; cases hr
  · rfl
theorem endOf_W (hlf : 1000 < lf) (r c : Int) {ms : List Int} {p : PV} {h : PHeap} (ht : TabOk g h) (hp : IntSl .i64 h p ms) (hl : ms.length ≤ 2 ^ 35) (hf : ms.length < lf) (N : Nat) (hN : 41 ≤ N) :
    W (CL g lf N fn_impl_EndOf [.int .i64 r, .int .i64 c, p] h) fun v h' => ∃ q, v = .tup [q, .int .i64 (recTurn r c ms)] ∧ OwnSl h.length h' q (recEnd r c ms) ∧ Keep h.length h h' := by
  obtain ⟨n, rfl⟩ : ∃ n, N = n + 1 := ⟨N - 1, by omega⟩
  have e1 := boardOk_N g lf n (by omega) h r c
  rw [impl_EndOf.call_eq]
  unfold impl_EndOf.main
  simp only [env_C, env_lf, env_un, env_len]
  cases hb : boardB r c with
  | false =>
    rw [hb] at e1
    obtain ⟨t0, x0⟩ := rec_none (r := r) (c := c) (ms := ms) (by unfold recB; rw [hb]; rfl)
    rw [t0, x0]
    repeat (first | with_reducible refine wT ?_ | with_reducible refine wnF ?_ | with_reducible refine wrI ?_ | with_reducible refine wrN ?_ | with_reducible refine wbd (by assumption) ?_ | dsimp only)
    exact W.ret ⟨_, rfl, OwnSl.nil _ _, Keep.refl _ _⟩
  | true =>
    rw [hb] at e1
    obtain ⟨q, h1, e2, o1, k1⟩ := freeBoard_W g lf n (by omega) h r c
    obtain ⟨R, C, rfl, rfl, hB⟩ := boardB_nat hb
    obtain ⟨b1, b2, b3, b4, b9⟩ := id hB
    rw [hb, if_pos rfl, show freeL (R : Int).toNat (C : Int).toNat = startL (R : Int) (C : Int) from (start_nat R C).symm] at o1
    have hlen := hp.len'
    repeat (first | with_reducible refine wF ?_ | with_reducible refine wnT ?_ | with_reducible refine wbd (by assumption) ?_ | dsimp only)
    refine loopW (fun m st => ∃ (k T : Nat) (ys : List Int) (q' : PV) (h2 : PHeap), st = impl_EndOf.st0 (.int .i64 (R : Int)) (.int .i64 (C : Int)) q' (.int .i64 (T : Int)) p (.int .i64 (ms.length : Int)) (.int .i64 (k : Int)) h2 ∧ k + m = ms.length ∧ (T = 1 ∨ T = 2) ∧ ((T : Int) = turnAt 1 k) ∧
      playTo (R : Int) (C : Int) (startL (R : Int) (C : Int)) 1 (ms.take k) = some ys ∧ OwnSl h.length h2 q' ys ∧ Keep h.length h h2) ?_ lf ms.length _ hf ⟨0, 1, _, q, h1, rfl, by omega, .inl rfl, rfl, rfl, o1, k1⟩
    rintro n1 m1 st ⟨k, T, ys, q', h2, rfl, hkm, hT, htu, hpl, o2, k2⟩ next
    have hyl : ys.length = R * C := by rw [playTo_length _ _ _ _ _ _ hpl, start_nat, List.length_replicate]
    have hp2 := hp.keep k2
    have heq : playTo (R : Int) (C : Int) (startL (R : Int) (C : Int)) 1 ms = playTo (R : Int) (C : Int) ys (T : Int) (ms.drop k) := by
      have := playTo_append (R : Int) (C : Int) (ms.take k) (ms.drop k) (startL (R : Int) (C : Int)) 1
      rw [List.take_append_drop, hpl, List.length_take, Nat.min_eq_left (by omega)] at this
      rw [htu]; exact this
    rw [impl_EndOf.body0_eq]
    unfold impl_EndOf.body0
    simp only [env_C, env_load, env_bin, env_un, env_indexAddr, env_extract]
    cases m1 with
    | zero =>
      obtain rfl : k = ms.length := by omega
      rw [List.take_length] at hpl
      have hr : recB (R : Int) (C : Int) ms = true := by unfold recB; rw [hb, hpl]; rfl
      have ht0 : recTurn (R : Int) (C : Int) ms = (T : Int) := by unfold recTurn; rw [hr, htu]; rfl
      have hx0 : recEnd (R : Int) (C : Int) ms = ys := by unfold recEnd; rw [hb, hpl]; rfl
      rw [ht0, hx0]
      repeat (first | with_reducible refine wF ?_ | with_reducible refine wrI ?_ | (with_reducible refine wresO (by assumption) ?_) | with_reducible refine wlssF (by omega) ?_ | rw [kLoop_exit] | rw [impl_EndOf.after0_se0_0_1_8_9_21_22_23_24])
      exact W.ret ⟨_, rfl, o2, k2⟩
    | succ m1 =>
      have hk : k < ms.length := by omega
      have hd : ms.drop k = ms[k] :: ms.drop (k + 1) := List.drop_eq_getElem_cons hk
      obtain ⟨q3, h3, e3, o3, k3⟩ := playedOk g lf hlf n (by omega) (R : Int) (C : Int) ms[k] (T : Int) (ht.keep k2) o2.int (by omega) (by omega)
      rw [hd] at heq; simp only [playTo] at heq
      cases hmv : moveL (R : Int) (C : Int) ys ms[k] (T : Int) with
      | false =>
        rw [hmv] at e3
        rw [hmv, if_neg (by decide)] at heq
        obtain ⟨t0, x0⟩ := rec_none (r := (R : Int)) (c := (C : Int)) (ms := ms) (by unfold recB; rw [heq]; simp)
        rw [t0, x0]
        repeat (first | with_reducible refine wT ?_ | with_reducible refine wnF ?_ | with_reducible refine wrI ?_ | with_reducible refine wrN ?_ | with_reducible refine wx0 ?_ | with_reducible refine wx1 ?_ | with_reducible refine wbd (by assumption) ?_ | (refine wat hp2 hk fun a ea => ?_) | with_reducible refine wlssT (by omega) ?_ | rw [kLoop_ret] | rw [impl_EndOf.K0_ret] | rw [impl_EndOf.top_sr_6_7] | dsimp only)
        exact W.ret ⟨_, rfl, OwnSl.nil _ _, k2.trans (k3.mono k2.1)⟩
      | true =>
        rw [hmv] at e3
        rw [hmv, if_pos rfl] at heq
        have ho := exchanged_W g lf n (by omega) h3 hT
        unfold playedL at o3
        rw [hmv, if_pos rfl] at o3
        repeat (first | with_reducible refine wT ?_ | with_reducible refine wF ?_ | with_reducible refine wnT ?_ | with_reducible refine wx0 ?_ | with_reducible refine wx1 ?_ | with_reducible refine wbd (by assumption) ?_ | (refine wat hp2 hk fun a ea => ?_) | with_reducible refine wadd1 (by omega) ?_ | with_reducible refine wlssT (by omega) ?_ | dsimp only)
        refine next _ _ (Nat.lt_succ_self _) ⟨k + 1, 3 - T, _, q3, h3, rfl, by omega, by omega, ?_, ?_, o3.mono k2.1, k2.trans (k3.mono k2.1)⟩
        · rw [← turnAt_succ]
          have : ((3 - T : Nat) : Int) = 3 - turnAt 1 k := by rw [← htu]; omega
          rw [this]; unfold turnAt; split <;> rfl
        · rw [List.take_succ_eq_append_getElem hk, playTo_append, hpl, List.length_take, Nat.min_eq_left (by omega)]
          show playTo (R : Int) (C : Int) ys (turnAt 1 k) [ms[k]] = _
          rw [← htu]
          simp only [playTo]
          rw [hmv, if_pos rfl]
theorem endOfOk (hlf : 1000 < lf) : EndOfOk g lf := fun N hN r c ms p h ht hp hl hf => by
  obtain ⟨_, h', e, q, rfl, o, k⟩ := endOf_W g lf hlf r c ht hp hl hf N (by omega)
  exact ⟨q, h', e, o, k⟩
theorem recTurn_ok (r c : Int) (ms : List Int) : (recTurn r c ms = 0) ↔ recB r c ms = false := by
  unfold recTurn
  cases h : recB r c ms with
  | false => simp
  | true =>
    rw [if_pos rfl]
    have := turnAt_player (t := 1) (.inl rfl) ms.length
    constructor
    · intro e; omega
    · intro e; cases e
theorem recordOk_W (hlf : 1000 < lf) (r c : Int) {ms : List Int} {p : PV} {h : PHeap} (ht : TabOk g h) (hp : IntSl .i64 h p ms) (hl : ms.length ≤ 2 ^ 35) (hf : ms.length < lf) (N : Nat) (hN : 42 ≤ N) :
    W (CL g lf N fn_impl_RecordOk [.int .i64 r, .int .i64 c, p] h) fun v h' => v = .bool (recB r c ms) ∧ Keep h.length h h' := by
  obtain ⟨n, rfl⟩ : ∃ n, N = n + 1 := ⟨N - 1, by omega⟩
  rw [impl_RecordOk.call_eq]
  unfold impl_RecordOk.main
  simp only [env_C, env_bin, env_extract]
  refine wcall (endOf_W g lf hlf r c ht hp hl hf n (by omega)) fun v h1 ⟨q, hv, o1, k1⟩ => ?_
  subst hv
  have h0 := recTurn_ok r c ms
  cases hr : recB r c ms with
  | false =>
    have := h0.2 hr
    repeat (first | with_reducible refine wrB ?_ | with_reducible refine wx0 ?_ | with_reducible refine wx1 ?_ | with_reducible refine wneqF (by omega) ?_ | dsimp only)
    exact W.ret ⟨rfl, k1⟩
  | true =>
    have : ¬ recTurn r c ms = 0 := fun e => by rw [h0.1 e] at hr; cases hr
    repeat (first | with_reducible refine wrB ?_ | with_reducible refine wx0 ?_ | with_reducible refine wx1 ?_ | with_reducible refine wneqT (by omega) ?_ | dsimp only)
    exact W.ret ⟨rfl, k1⟩
/-! ### texts of records -/
theorem boardText_N {R C : Nat} (hR : R < 10) (hC : C < 10) (N : Nat) (hN : 5 ≤ N) (h : PHeap) : CL g lf N fn_impl_boardText [.int .i64 (R : Int), .int .i64 (C : Int)] h = some (.str (sB (boardT (R : Int) (C : Int))), h) := by
  obtain ⟨n, rfl⟩ : ∃ n, N = n + 1 := ⟨N - 1, by omega⟩
  have e1 := itoa_N g lf hR n (by omega) h
  have e2 := itoa_N g lf hC n (by omega) h
  suffices this : W (CL g lf (n + 1) fn_impl_boardText [.int .i64 (R : Int), .int .i64 (C : Int)] h) fun v h' => v = .str (sB (boardT (R : Int) (C : Int))) ∧ h' = h by
    obtain ⟨_, _, e, rfl, rfl⟩ := this; exact e
  rw [impl_boardText.call_eq]
  unfold impl_boardText.main
  simp only [env_C, env_bin]
  repeat (first | with_reducible refine wbd (by assumption) ?_ | (with_reducible refine wsadd (by simp) ?_) | (with_reducible refine wrT ?_) | dsimp only)
  exact W.ret ⟨rfl, rfl⟩
theorem recordText_W (hlf : 1000 < lf) (r c : Int) {ms : List Int} {p : PV} {h : PHeap} (ht : TabOk g h) (hp : IntSl .i64 h p ms) (hl : ms.length ≤ 2 ^ 35) (hf : ms.length < lf) (N : Nat) (hN : 43 ≤ N) :
    W (CL g lf N fn_impl_RecordText [.int .i64 r, .int .i64 c, p] h) fun v h' => v = .str (sB (recT r c ms)) ∧ Keep h.length h h' := by
  obtain ⟨n, rfl⟩ : ∃ n, N = n + 1 := ⟨N - 1, by omega⟩
  rw [impl_RecordText.call_eq]
  unfold impl_RecordText.main
  simp only [env_C, env_lf, env_bin, env_un, env_len]
  refine wcall (recordOk_W g lf hlf r c ht hp hl hf n (by omega)) fun v h1 ⟨hv, k1⟩ => ?_
  subst hv
  cases hr : recB r c ms with
  | false =>
    have htx : recT r c ms = [] := by unfold recT; rw [hr]; rfl
    rw [htx]
    repeat (first | with_reducible refine wT ?_ | with_reducible refine wnF ?_ | (with_reducible refine wrT ?_) | dsimp only)
    exact W.ret ⟨rfl, k1⟩
  | true =>
    have htx : recT r c ms = recTx r c ms := by unfold recT; rw [hr]; rfl
    rw [htx]
    have hb := rec_board hr
    have hcs := rec_cells hr
    have h9 := (rec_length hr).2
    obtain ⟨R, C, rfl, rfl, hB⟩ := boardB_nat hb
    obtain ⟨b1, b2, b3, b4, b9⟩ := id hB
    have e1 := boardText_N g lf (R := R) (C := C) (by omega) (by omega) n (by omega) h1
    have eT : ∀ k h', CL g lf n fn_impl_CellText [.int .i64 (R : Int), .int .i64 (C : Int), .int .i64 k] h' = some (.str (sB (cellT (R : Int) (C : Int) k)), h') := fun k h' => cellText_N g lf n (by omega) h' (R : Int) (C : Int) k
    have hlen := (hp.keep k1).len'
    have hp1 := hp.keep k1
    repeat (first | with_reducible refine wF ?_ | with_reducible refine wnT ?_ | with_reducible refine wbd (by assumption) ?_ | (with_reducible refine wsadd (by simp [boardT]) ?_) | dsimp only)
    refine loopW (fun m st => ∃ (k : Nat), st = impl_RecordText.st0 (.int .i64 (R : Int)) (.int .i64 (C : Int)) (.str (sB (recTx (R : Int) (C : Int) (ms.take k)))) p (.int .i64 (ms.length : Int)) (.int .i64 (k : Int)) h1 ∧ k + m = ms.length) ?_ lf ms.length _ (by omega) ⟨0, rfl, by omega⟩
    rintro n1 m1 st ⟨k, rfl, hkm⟩ next
    rw [impl_RecordText.body0_eq]
    unfold impl_RecordText.body0
    simp only [env_C, env_load, env_bin, env_indexAddr]
    cases m1 with
    | zero =>
      obtain rfl : k = ms.length := by omega
      rw [List.take_length]
      repeat (first | with_reducible refine wF ?_ | (with_reducible refine wrT ?_) | with_reducible refine wlssF (by omega) ?_ | rw [kLoop_exit] | rw [impl_RecordText.after0_se0_0_1_7_19_20_21_22])
      exact W.ret ⟨rfl, k1⟩
    | succ m1 =>
      have hk : k < ms.length := by omega
      obtain ⟨j, hj, hjl⟩ := hcs ms[k] (List.getElem_mem hk)
      rw [← Int.natCast_mul] at hjl
      have hl := recTx_length (R : Int) (C : Int) (ms.take k)
      rw [List.length_take, Nat.min_eq_left (by omega)] at hl
      have hct : cellT (R : Int) (C : Int) ms[k] = nameL C j := by rw [hj, cellT_in hB hb (by omega)]
      repeat (first | with_reducible refine wT ?_ | with_reducible refine wbd (by assumption) ?_ | (refine wat hp1 hk fun a ea => ?_) | (with_reducible refine wbd (eT _ _) ?_) | with_reducible refine wlssT (by omega) ?_ | dsimp only)
      rw [hct]
      refine wsadd (by simp [nameL]) ?_
      refine wsadd (by simp [nameL]; omega) ?_
      repeat (first | with_reducible refine wadd1 (by omega) ?_)
      refine next _ _ (Nat.lt_succ_self _) ⟨k + 1, ?_, by omega⟩
      rw [List.take_succ_eq_append_getElem hk, recTx_more, hj]
      rfl
theorem recordTextOk (hlf : 1000 < lf) : RecordTextOk g lf := fun N hN r c ms p h ht hp hl hf => by
  obtain ⟨_, h', e, rfl, k⟩ := recordText_W g lf hlf r c ht hp hl hf N (by omega)
  exact ⟨h', e, k⟩

end Go.Proofs.YtpaehbfknlpkbadDoor

/- What the program's functions of chapter 11 compute, on: texts that the library cuts, and records that are read. -/
set_option maxRecDepth 20000
namespace Go.Proofs.YtpaehbfknlpkbadDoor
open Go Go.Ip G

/-! ### a byte sought and counted -/
theorem ext_idx (s : List UInt8) (c : UInt8) : extP Tryd.prog fn_internal_bytealg_IndexByteString [.str (sB s), .int .u8 (c.toNat : Int)] = some (.int .i64 (Lib.indexByte s c)) := by
  have h : extP Tryd.prog fn_internal_bytealg_IndexByteString [.str (sB s), .int .u8 (c.toNat : Int)] = some (.int .i64 (Lib.indexByte (sB s).data.toList (c.toNat : Int).toNat.toUInt8)) := by kernel_rfl
  have h2 : (c.toNat : Int).toNat.toUInt8 = c := by rw [Int.toNat_natCast]; exact UInt8.ofNat_toNat
  rw [h, sB_data, h2]
theorem ext_cnt (s : List UInt8) (c : UInt8) : extP Tryd.prog fn_internal_bytealg_CountString [.str (sB s), .int .u8 (c.toNat : Int)] = some (.int .i64 (Lib.countByte s c : Int)) := by
  have h : extP Tryd.prog fn_internal_bytealg_CountString [.str (sB s), .int .u8 (c.toNat : Int)] = some (.int .i64 (Lib.countByte (sB s).data.toList (c.toNat : Int).toNat.toUInt8 : Int)) := by kernel_rfl
  have h2 : (c.toNat : Int).toNat.toUInt8 = c := by rw [Int.toNat_natCast]; exact UInt8.ofNat_toNat
  rw [h, sB_data, h2]

section
variable {Q : PV → PHeap → Prop} {f : PV → Res}
theorem wslen1 {c : UInt8} (hf : W (f (.int .i64 1)) Q) : W ((lenP Tryd.prog 9 (.str (sB [c]))).bind f) Q := wslen hf
theorem wadd0 {a : Int} (ha : -4611686018427387904 ≤ a ∧ a ≤ 4611686018427387904) (hf : W (f (.int .i64 a)) Q) : W ((binP Tryd.prog .add 3 (.int .i64 a) (.int .i64 0)).bind f) Q :=
  wbd (by rw [bin_add, Int.add_zero, wr (by omega)]) hf
end

variable (g : Nat → PV) (lf n : Nat)

theorem idxByte_N (s : List UInt8) (c : UInt8) (N : Nat) (hN : 1 ≤ N) (h : PHeap) : CL g lf N fn_internal_stringslite_IndexByte [.str (sB s), .int .u8 (c.toNat : Int)] h = some (.int .i64 (Lib.indexByte s c), h) := by
  obtain ⟨n, rfl⟩ : ∃ n, N = n + 1 := ⟨N - 1, by omega⟩
  suffices this : W (CL g lf (n + 1) fn_internal_stringslite_IndexByte [.str (sB s), .int .u8 (c.toNat : Int)] h) fun v h' => v = .int .i64 (Lib.indexByte s c) ∧ h' = h by
    obtain ⟨_, _, e, rfl, rfl⟩ := this; exact e
  rw [internal_stringslite_IndexByte.call_eq]
  unfold internal_stringslite_IndexByte.main
  simp only [env_ext]
  refine wbd (ext_idx s c) ?_
  repeat (first | with_reducible refine wrI ?_)
  exact W.ret ⟨rfl, rfl⟩
theorem index_N (s : List UInt8) (c : UInt8) (N : Nat) (hN : 2 ≤ N) (h : PHeap) : CL g lf N fn_internal_stringslite_Index [.str (sB s), .str (sB [c])] h = some (.int .i64 (Lib.indexByte s c), h) := by
  obtain ⟨n, rfl⟩ : ∃ n, N = n + 1 := ⟨N - 1, by omega⟩
  have e1 := idxByte_N g lf s c n (by omega) h
  suffices this : W (CL g lf (n + 1) fn_internal_stringslite_Index [.str (sB s), .str (sB [c])] h) fun v h' => v = .int .i64 (Lib.indexByte s c) ∧ h' = h by
    obtain ⟨_, _, e, rfl, rfl⟩ := this; exact e
  rw [internal_stringslite_Index.call_eq]
  unfold internal_stringslite_Index.main
  simp only [env_C, env_g, env_lf, env_pick, env_load, env_bin, env_index, env_len, env_ext]
  by_cases he : [c] = s
  · repeat (first | with_reducible refine wT ?_ | with_reducible refine wg1 rfl ?_ | with_reducible refine wpF ?_ | with_reducible refine wpv ?_ | with_reducible refine wsm ?_ | with_reducible refine wrI ?_ | (with_reducible refine wslen1 ?_) | (with_reducible refine wseqT he ?_) | with_reducible refine weqlF (by omega) ?_ | dsimp only)
    refine W.ret ⟨?_, rfl⟩
    rw [← he, show ([c] : List UInt8) = [] ++ c :: [] from rfl, idx_at (by simp)]
    rfl
  · repeat (first | with_reducible refine wT ?_ | with_reducible refine wF ?_ | with_reducible refine wg1 rfl ?_ | with_reducible refine wpF ?_ | with_reducible refine wpv ?_ | with_reducible refine wsm ?_ | with_reducible refine wrI ?_ | with_reducible refine wbd (by assumption) ?_ | (with_reducible refine wslen1 ?_) | (with_reducible refine wseqF he ?_) | (with_reducible refine wsidx0 rfl ?_) | with_reducible refine weqlT (by omega) ?_ | with_reducible refine weqlF (by omega) ?_ | dsimp only)
    exact W.ret ⟨rfl, rfl⟩
theorem sIndex_N (s : List UInt8) (c : UInt8) (N : Nat) (hN : 3 ≤ N) (h : PHeap) : CL g lf N fn_strings_Index [.str (sB s), .str (sB [c])] h = some (.int .i64 (Lib.indexByte s c), h) := by
  obtain ⟨n, rfl⟩ : ∃ n, N = n + 1 := ⟨N - 1, by omega⟩
  have e1 := index_N g lf s c n (by omega) h
  suffices this : W (CL g lf (n + 1) fn_strings_Index [.str (sB s), .str (sB [c])] h) fun v h' => v = .int .i64 (Lib.indexByte s c) ∧ h' = h by
    obtain ⟨_, _, e, rfl, rfl⟩ := this; exact e
  rw [strings_Index.call_eq]
  unfold strings_Index.main
  simp only [env_C]
  repeat (first | with_reducible refine wrI ?_ | with_reducible refine wbd (by assumption) ?_ | dsimp only)
  exact W.ret ⟨rfl, rfl⟩
theorem sCount_N (s : List UInt8) (c : UInt8) (N : Nat) (hN : 1 ≤ N) (h : PHeap) : CL g lf N fn_strings_Count [.str (sB s), .str (sB [c])] h = some (.int .i64 (Lib.countByte s c : Int), h) := by
  obtain ⟨n, rfl⟩ : ∃ n, N = n + 1 := ⟨N - 1, by omega⟩
  suffices this : W (CL g lf (n + 1) fn_strings_Count [.str (sB s), .str (sB [c])] h) fun v h' => v = .int .i64 (Lib.countByte s c : Int) ∧ h' = h by
    obtain ⟨_, _, e, rfl, rfl⟩ := this; exact e
  rw [strings_Count.call_eq]
  unfold strings_Count.main
  simp only [env_C, env_lf, env_bin, env_index, env_len, env_ext]
  repeat (first | with_reducible refine wT ?_ | with_reducible refine wF ?_ | with_reducible refine wrI ?_ | (with_reducible refine wslen1 ?_) | (with_reducible refine wsidx0 rfl ?_) | (with_reducible refine wbd (ext_cnt s c) ?_) | with_reducible refine weqlT (by omega) ?_ | with_reducible refine weqlF (by omega) ?_)
  exact W.ret ⟨rfl, rfl⟩

/-! ### a text cut in two -/
theorem cutNo_N {s : List UInt8} {c : UInt8} (hs : ∀ x ∈ s, x ≠ c) (N : Nat) (hN : 4 ≤ N) (h : PHeap) : CL g lf N fn_strings_Cut [.str (sB s), .str (sB [c])] h = some (.tup [.str (sB s), .str (sB []), .bool false], h) := by
  obtain ⟨n, rfl⟩ : ∃ n, N = n + 1 := ⟨N - 1, by omega⟩
  have e1 : CL g lf n fn_internal_stringslite_Cut [.str (sB s), .str (sB [c])] h = some (.tup [.str (sB s), .str (sB []), .bool false], h) := by
    obtain ⟨n, rfl⟩ : ∃ m, n = m + 1 := ⟨n - 1, by omega⟩
    have e0 := index_N g lf s c n (by omega) h
    rw [idx_none hs] at e0
    suffices this : W (CL g lf (n + 1) fn_internal_stringslite_Cut [.str (sB s), .str (sB [c])] h) fun v h' => v = .tup [.str (sB s), .str (sB []), .bool false] ∧ h' = h by
      obtain ⟨_, _, e, rfl, rfl⟩ := this; exact e
    rw [internal_stringslite_Cut.call_eq]
    unfold internal_stringslite_Cut.main
    simp only [env_C, env_bin, env_slice, env_len]
    repeat (first | with_reducible refine wF ?_ | with_reducible refine wrB ?_ | with_reducible refine wbd (by assumption) ?_ | (with_reducible refine wrT ?_) | with_reducible refine wgeqF (by omega) ?_ | dsimp only)
    exact W.ret ⟨rfl, rfl⟩
  suffices this : W (CL g lf (n + 1) fn_strings_Cut [.str (sB s), .str (sB [c])] h) fun v h' => v = .tup [.str (sB s), .str (sB []), .bool false] ∧ h' = h by
    obtain ⟨_, _, e, rfl, rfl⟩ := this; exact e
  rw [strings_Cut.call_eq]
  unfold strings_Cut.main
  simp only [env_C, env_extract]
  repeat (first | with_reducible refine wrB ?_ | with_reducible refine wx0 ?_ | with_reducible refine wx1 ?_ | with_reducible refine wx2 ?_ | with_reducible refine wbd (by assumption) ?_ | (with_reducible refine wrT ?_) | dsimp only)
  exact W.ret ⟨rfl, rfl⟩
theorem cutYes_N {w rest : List UInt8} {c : UInt8} (hw : ∀ x ∈ w, x ≠ c) (hl : w.length < 4611686018427387904) (N : Nat) (hN : 4 ≤ N) (h : PHeap) : CL g lf N fn_strings_Cut [.str (sB (w ++ c :: rest)), .str (sB [c])] h = some (.tup [.str (sB w), .str (sB rest), .bool true], h) := by
  obtain ⟨n, rfl⟩ : ∃ n, N = n + 1 := ⟨N - 1, by omega⟩
  have e1 : CL g lf n fn_internal_stringslite_Cut [.str (sB (w ++ c :: rest)), .str (sB [c])] h = some (.tup [.str (sB w), .str (sB rest), .bool true], h) := by
    obtain ⟨n, rfl⟩ : ∃ m, n = m + 1 := ⟨n - 1, by omega⟩
    have e0 := index_N g lf (w ++ c :: rest) c n (by omega) h
    rw [idx_at hw] at e0
    have s1 : (w ++ c :: rest).take w.length = w := by simp
    have s2 : (w ++ c :: rest).drop (w.length + 1) = rest := by rw [List.drop_append]; simp
    have l1 : w.length + 1 ≤ (w ++ c :: rest).length := by rw [List.length_append, List.length_cons]; omega
    suffices this : W (CL g lf (n + 1) fn_internal_stringslite_Cut [.str (sB (w ++ c :: rest)), .str (sB [c])] h) fun v h' => v = .tup [.str (sB w), .str (sB rest), .bool true] ∧ h' = h by
      obtain ⟨_, _, e, rfl, rfl⟩ := this; exact e
    generalize w ++ c :: rest = s at *
    rw [internal_stringslite_Cut.call_eq]
    unfold internal_stringslite_Cut.main
    simp only [env_C, env_bin, env_slice, env_len]
    repeat (first | with_reducible refine wT ?_ | with_reducible refine wrB ?_ | with_reducible refine wbd (by assumption) ?_ | (with_reducible refine wslen1 ?_) | (with_reducible refine wssl0 (by omega) ?_) | (with_reducible refine wssl1 (by omega) ?_) | (with_reducible refine wrT ?_) | with_reducible refine wadd1 (by omega) ?_ | with_reducible refine wgeqT (by omega) ?_ | dsimp only)
    exact W.ret ⟨by rw [s1, s2], rfl⟩
  suffices this : W (CL g lf (n + 1) fn_strings_Cut [.str (sB (w ++ c :: rest)), .str (sB [c])] h) fun v h' => v = .tup [.str (sB w), .str (sB rest), .bool true] ∧ h' = h by
    obtain ⟨_, _, e, rfl, rfl⟩ := this; exact e
  rw [strings_Cut.call_eq]
  unfold strings_Cut.main
  simp only [env_C, env_extract]
  repeat (first | with_reducible refine wrB ?_ | with_reducible refine wx0 ?_ | with_reducible refine wx1 ?_ | with_reducible refine wx2 ?_ | with_reducible refine wbd (by assumption) ?_ | (with_reducible refine wrT ?_) | dsimp only)
  exact W.ret ⟨rfl, rfl⟩

/-! ### a text cut in pieces -/
def TAt (h : PHeap) (id : Nat) (ss : List (List UInt8)) : Prop := At h id (ss.map fun s => .str (sB s))
theorem repeat_one (x : PV) : ∀ m, repeatCells [x] m = List.replicate m x
  | 0 => rfl
  | m + 1 => by rw [repeatCells, repeat_one x m, List.replicate_succ]; rfl
section
variable {Q : PV → PHeap → Prop} {h : PHeap}
theorem wtmake {m : Nat} (hm : m ≤ 2 ^ 36) {F : PV × PHeap → Res} (hf : ∀ h', TAt h' h.length (List.replicate m []) → Keep h.length h h' → W (F (.sl h.length 0 m, h')) Q) :
    W ((makeP Tryd.prog 43 (.int .i64 (m : Int)) (.int .i64 (m : Int)) h).bind F) Q := by
  have hb : makeP Tryd.prog 43 (.int .i64 (m : Int)) (.int .i64 (m : Int)) h = some (.sl h.length 0 m, h ++ [.own 1 (repeatCells [.str (sB [])] m)]) := by
    simp only [makeP, tyTE, tyT1, tyTZ, tyTS, Int.toNat_natCast]
    rw [if_pos]
    rw [Bool.true_and, decide_eq_true_iff]
    exact ⟨by simp, by decide, by omega, by omega, by omega⟩
  refine wbd hb (hf _ ?_ (Keep.append _ _ _ (Nat.le_refl _)))
  unfold TAt At
  rw [repeat_one, List.map_replicate]
  simp
theorem wtaddr {id m k : Nat} (hk : k < m) {F : PV → Res} (hf : W (F (.ptr id k)) Q) : W ((indexAddrP Tryd.prog 43 (.sl id 0 m) (.int .i64 (k : Int))).bind F) Q := by
  refine wbd ?_ hf
  simp only [indexAddrP, tyTU, tyT1, Int.toNat_natCast]
  rw [if_pos ⟨by omega, by omega⟩]
  congr 2; omega
theorem wtst {id k : Nat} {ss : List (List UInt8)} {x : List UInt8} (o : TAt h id ss) (hk : k < ss.length) {F : PHeap → Res} (hf : ∀ h', TAt h' id (ss.set k x) → KB id h h' → W (F h') Q) :
    W ((storeP Tryd.prog 9 (.ptr id k) (.str (sB x)) h).bind F) Q := by
  have hs : storeP Tryd.prog 9 (.ptr id k) (.str (sB x)) h = some (h.set id (.own 1 ((ss.map fun s => .str (sB s)).set k (.str (sB x))))) := by
    unfold TAt At at o
    simp only [storeP, o, PV.cells, tyT1, List.length_map, List.length_singleton, setCells]
    rw [if_pos ⟨by simp, by omega⟩]
  obtain ⟨a, b⟩ := put_at (l' := (ss.map fun s => .str (sB s)).set k (.str (sB x))) o
  refine wbd hs (hf _ ?_ b)
  unfold TAt
  rw [List.map_set]; exact a
theorem wtcut {id m j : Nat} {ss : List (List UInt8)} (o : TAt h id ss) (hj : j ≤ m) {F : PV → Res} (hf : W (F (.sl id 0 j)) Q) : W ((sliceP Tryd.prog 43 (.sl id 0 m) none (some (.int .i64 (j : Int))) h).bind F) Q := by
  have he : eszAt h id = 1 := by unfold eszAt; rw [show h[id]? = _ from o]; rfl
  refine wbd ?_ hf
  simp only [sliceP, tyTE, tyT1, he, bound_nat hj, bound_none, Option.bind_some]
  rw [if_pos ⟨trivial, by decide⟩]
  simp
theorem wttail {id m : Nat} {ss : List (List UInt8)} (o : TAt h id ss) (hm : 1 ≤ m) {F : PV → Res} (hf : W (F (.sl id 1 (m - 1))) Q) : W ((sliceP Tryd.prog 43 (.sl id 0 m) (some (.int .i64 1)) none h).bind F) Q := by
  have he : eszAt h id = 1 := by unfold eszAt; rw [show h[id]? = _ from o]; rfl
  refine wbd ?_ hf
  have hb : boundP m 0 (some (.int .i64 1)) = some 1 := bound_nat (j := 1) hm
  simp only [sliceP, tyTE, tyT1, he, bound_none, Option.bind_some, hb]
  rw [if_pos ⟨trivial, by decide⟩]
theorem wtlen {id o m : Nat} {F : PV → Res} (hf : W (F (.int .i64 (m : Int))) Q) : W ((lenP Tryd.prog 43 (.sl id o m)).bind F) Q := wbd (by simp [lenP, tyTU]) hf
theorem wtat1 {id m k : Nat} {w0 x : List UInt8} {ws : List (List UInt8)} (o : TAt h id (w0 :: ws)) (hm : m = ws.length) (hx : ws[k]? = some x) {F : PV → Res} (hf : W (F (.str (sB x))) Q) :
    W ((indexAddrP Tryd.prog 43 (.sl id 1 m) (.int .i64 (k : Int))).bind fun v => (loadP Tryd.prog 9 v h).bind F) Q := by
  have hk : k < ws.length := (List.getElem?_eq_some_iff.1 hx).1
  subst hm
  refine wbd (v := .ptr id (1 + k)) ?_ (wbd (v := .str (sB x)) ?_ hf)
  · simp only [indexAddrP, tyTU, tyT1, Int.toNat_natCast]
    rw [if_pos ⟨by omega, by omega⟩, Nat.mul_one]
  · unfold TAt At at o
    simp only [loadP, tyTA, cellsAt, o, PObj.get, List.map_cons]
    rw [show 1 + k = k + 1 by omega, List.getElem?_cons_succ, List.getElem?_map, hx]; rfl
end
theorem TAt.keep {h h' : PHeap} {id : Nat} {ss : List (List UInt8)} (o : TAt h id ss) (k : Keep h.length h h') : TAt h' id ss := At.keep o k
theorem TAt.lt {h : PHeap} {id : Nat} {ss : List (List UInt8)} (o : TAt h id ss) : id < h.length := At.lt o
theorem min_nat {a b : Nat} (h : a ≤ b) : foldP minP2 (.int .i64 (a : Int)) [.int .i64 (b : Int)] = some (.int .i64 (a : Int)) := by
  simp only [foldP, minP2]
  rw [if_neg (by omega)]; rfl
theorem set_done (done : List (List UInt8)) (w : List UInt8) (m : Nat) : (done ++ List.replicate (m + 1) []).set done.length w = (done ++ [w]) ++ List.replicate m [] := by
  rw [List.replicate_succ, List.set_append_right _ _ (Nat.le_refl _), Nat.sub_self, List.set_cons_zero, List.append_assoc]; rfl
theorem cut_single {c : UInt8} {s : List UInt8} (h : (cutL c s).length = 1) : cutL c s = [s] := by
  rcases text_cut c s with hn | ⟨w, rest, rfl, hw⟩
  · exact cut_none hn
  · rw [cut_one rest hw] at h
    have := cut_some c rest
    cases hc : cutL c rest with
    | nil => exact absurd hc this
    | cons a b => rw [hc] at h; simp at h

theorem genSplit_W (hlf : 1000 < lf) (s : List UInt8) (c : UInt8) (hs : s.length ≤ 2 ^ 35) (hf : s.length + 1 < lf) (N : Nat) (hN : 4 ≤ N) (h : PHeap) :
    W (CL g lf N fn_strings_genSplit [.str (sB s), .str (sB [c]), .int .i64 0, .int .i64 (-1)] h) fun v h' => ∃ id, v = .sl id 0 (cutL c s).length ∧ TAt h' id (cutL c s) ∧ h.length ≤ id ∧ Keep h.length h h' := by
  obtain ⟨n, rfl⟩ : ∃ n, N = n + 1 := ⟨N - 1, by omega⟩
  have eC := sCount_N g lf s c n (by omega) h
  have eI : ∀ t h', CL g lf n fn_strings_Index [.str (sB t), .str (sB [c])] h' = some (.int .i64 (Lib.indexByte t c), h') := fun t h' => sIndex_N g lf t c n (by omega) h'
  have hcl := count_le c s
  have hcc := cut_count c s
  generalize Lib.countByte s c = K at eC hcl hcc
  rw [strings_genSplit.call_eq]
  unfold strings_genSplit.main
  simp only [env_C, env_lf, env_bin, env_make, env_len, env_min]
  repeat (first | with_reducible refine wT ?_ | with_reducible refine wF ?_ | with_reducible refine wbd (by assumption) ?_ | (with_reducible refine wseqF (by simp) ?_) | (with_reducible refine wslen ?_) | (with_reducible refine wbd (min_nat (show K + 1 ≤ s.length + 1 by omega)) ?_) | with_reducible refine wadd1 (by omega) ?_ | with_reducible refine wlssT (by omega) ?_ | with_reducible refine weqlF (by omega) ?_ | dsimp only)
  refine wtmake (by omega) fun h1 o1 k1 => ?_
  repeat (first | with_reducible refine wsub1 (by omega) (by omega) ?_ | dsimp only)
  rw [show K + 1 - 1 = K by omega]
  refine loopW (fun m st => ∃ (done : List (List UInt8)) (rest : List UInt8) (h2 : PHeap), st = strings_genSplit.st0 (.str (sB rest)) (.str (sB [c])) (.int .i64 0) (.int .i64 (K : Int)) (.sl h.length 0 (K + 1)) (.int .i64 (done.length : Int)) h2 ∧ done.length + m = K ∧
    done ++ cutL c rest = cutL c s ∧ rest.length ≤ s.length ∧ TAt h2 h.length (done ++ List.replicate (m + 1) []) ∧ Keep h.length h h2) ?_ lf K _ (by omega) ⟨[], s, h1, rfl, by simp, rfl, Nat.le_refl _, o1, k1⟩
  rintro n1 m1 st ⟨done, rest, h2, rfl, hdm, hcut, hrl, o2, k2⟩ next
  have hlen := congrArg List.length hcut
  rw [List.length_append, hcc] at hlen
  have hlo : (done ++ List.replicate (m1 + 1) ([] : List UInt8)).length = K + 1 := by rw [List.length_append, List.length_replicate]; omega
  rw [strings_genSplit.body0_eq]
  unfold strings_genSplit.body0
  simp only [env_C, env_store, env_bin, env_slice, env_indexAddr, env_len]
  cases m1 with
  | zero =>
    have h1c : cutL c rest = [rest] := cut_single (by omega)
    rw [h1c] at hcut
    repeat (first | with_reducible refine wF ?_ | (with_reducible refine wtaddr (by omega) ?_) | (refine wtst o2 (by omega) fun h3 o3 k3 => ?_) | with_reducible refine wadd1 (by omega) ?_ | with_reducible refine wlssF (by omega) ?_ | rw [kLoop_exit] | rw [strings_genSplit.after0_se0_0_1_2_3_9_10_36] | simp only [env_C, env_Y, env_g, env_lf, env_pick, env_alloc, env_box, env_build, env_buildSlice, env_load, env_store, env_ptr, env_bin, env_un, env_conv, env_make, env_slice, env_fieldAddr, env_field, env_indexAddr, env_index, env_extract, env_len, env_append, env_max, env_min, env_makeMap, env_lookup, env_update, env_clos, env_bstr, env_ext])
    refine wtcut o3 (by omega) ?_
    repeat (first | with_reducible refine wrS ?_)
    refine W.ret ⟨h.length, ?_, ?_, Nat.le_refl _, k2.kbs (Nat.le_refl _) k3 (Nat.le_refl _)⟩
    · rw [hcc]; congr 1; omega
    · rw [set_done, List.replicate_zero, List.append_nil, hcut] at o3
      exact o3
  | succ m1 =>
    rcases text_cut c rest with hno | ⟨w, rest', rfl, hw⟩
    · rw [cut_none hno] at hlen; simp at hlen; omega
    · rw [cut_one rest' hw] at hcut
      rw [List.length_append, List.length_cons] at hrl
      have s1 : (w ++ c :: rest').take w.length = w := by simp
      have s2 : (w ++ c :: rest').drop (w.length + 1) = rest' := by rw [List.drop_append]; simp
      have l1 : w.length + 1 ≤ (w ++ c :: rest').length := by rw [List.length_append, List.length_cons]; omega
      have eI1 := fun h' => eI (w ++ c :: rest') h'
      rw [idx_at hw] at eI1
      clear hlen
      generalize w ++ c :: rest' = t at *
      repeat (first | with_reducible refine wT ?_ | with_reducible refine wF ?_ | (with_reducible refine wbd (eI1 _) ?_) | (with_reducible refine wslen1 ?_) | (with_reducible refine wadd0 (by omega) ?_) | (with_reducible refine wssl0 (by omega) ?_) | (with_reducible refine wssl1 (by omega) ?_) | (with_reducible refine wtaddr (by omega) ?_) | (refine wtst o2 (by omega) fun h3 o3 k3 => ?_) | with_reducible refine wadd1 (by omega) ?_ | with_reducible refine wlssT (by omega) ?_ | with_reducible refine wlssF (by omega) ?_)
      rw [s2]
      refine next _ _ (Nat.lt_succ_self _) ⟨done ++ [w], rest', h3, by rw [List.length_append]; rfl, by simp; omega, by rw [List.append_assoc]; exact hcut, by omega, ?_, k2.kbs (Nat.le_refl _) k3 (Nat.le_refl _)⟩
      rw [s1, set_done] at o3
      exact o3
theorem split_W (hlf : 1000 < lf) (s : List UInt8) (c : UInt8) (hs : s.length ≤ 2 ^ 35) (hf : s.length + 1 < lf) (N : Nat) (hN : 5 ≤ N) (h : PHeap) :
    W (CL g lf N fn_strings_Split [.str (sB s), .str (sB [c])] h) fun v h' => ∃ id, v = .sl id 0 (cutL c s).length ∧ TAt h' id (cutL c s) ∧ h.length ≤ id ∧ Keep h.length h h' := by
  obtain ⟨n, rfl⟩ : ∃ n, N = n + 1 := ⟨N - 1, by omega⟩
  rw [strings_Split.call_eq]
  unfold strings_Split.main
  simp only [env_C]
  refine wcall (genSplit_W g lf hlf s c hs hf n (by omega) h) fun v h1 ⟨id, hv, o1, l1, k1⟩ => ?_
  subst hv
  repeat (first | with_reducible refine wrS ?_ | dsimp only)
  exact W.ret ⟨id, rfl, o1, l1, k1⟩

/-! ### boards and moves that are read -/
theorem readBoard_W (hlf : 1000 < lf) (s : List UInt8) (N : Nat) (hN : 6 ≤ N) (h : PHeap) :
    W (CL g lf N fn_impl_readBoard [.str (sB s)] h) fun v h' => ∃ (r c : Int) (ok : Bool), v = .tup [.int .i64 r, .int .i64 c, .bool ok] ∧ h' = h ∧ (ok = true → boardB r c = true ∧ boardT r c = s) ∧ (ok = false → r = 0 ∧ c = 0 ∧ ∀ r c, boardB r c = true → boardT r c ≠ s) := by
  obtain ⟨n, rfl⟩ : ∃ n, N = n + 1 := ⟨N - 1, by omega⟩
  rw [impl_readBoard.call_eq]
  unfold impl_readBoard.main
  simp only [env_lf]
  refine loopW (fun m st => ∃ a : Nat, st = impl_readBoard.st0 (.str (sB s)) (.int .i64 (a : Int)) h ∧ a + m = 5 ∧ 1 ≤ a ∧ ∀ r c, boardB r c = true → r < (a : Int) → boardT r c ≠ s) ?_ lf 4 _ (by omega) ⟨1, rfl, rfl, by omega, fun r c hb hr => by obtain ⟨R, C, rfl, rfl, b1, _⟩ := boardB_nat hb; omega⟩
  rintro n1 m1 st ⟨a, rfl, ham, ha1, hno⟩ next
  rw [impl_readBoard.body0_eq]
  unfold impl_readBoard.body0
  simp only [env_lf, env_bin]
  cases m1 with
  | zero =>
    repeat (first | with_reducible refine wF ?_ | with_reducible refine wrI ?_ | with_reducible refine wrB ?_ | with_reducible refine wleqF (by omega) ?_ | rw [kLoop_exit] | rw [impl_readBoard.after0_se0_0_5_8])
    refine W.ret ⟨0, 0, false, rfl, rfl, by simp, fun _ => ⟨rfl, rfl, fun r c hb => hno r c hb ?_⟩⟩
    obtain ⟨R, C, rfl, rfl, _, b2, _⟩ := boardB_nat hb
    omega
  | succ m1 =>
    repeat (first | with_reducible refine wT ?_ | with_reducible refine wleqT (by omega) ?_)
    refine loopW (fun m st => ∃ b : Nat, st = impl_readBoard.st1 (.str (sB s)) (.int .i64 (a : Int)) (.int .i64 (b : Int)) h ∧ b + m = 5 ∧ 1 ≤ b ∧ ∀ c, boardB (a : Int) c = true → c < (b : Int) → boardT (a : Int) c ≠ s) ?_ lf 4 _ (by omega) ⟨1, rfl, rfl, by omega, fun c hb hr => by obtain ⟨R, C, e, rfl, _, _, b3, _⟩ := boardB_nat hb; omega⟩
    rintro n2 m2 st ⟨b, rfl, hbm, hb1, hno2⟩ next2
    rw [impl_readBoard.body1_eq]
    unfold impl_readBoard.body1
    simp only [env_C, env_pick, env_bin]
    cases m2 with
    | zero =>
      repeat (first | with_reducible refine wF ?_ | with_reducible refine wadd1 (by omega) ?_ | with_reducible refine wleqF (by omega) ?_ | rw [kLoop_exit] | rw [impl_readBoard.after1_se2_0_5_6_12] | simp only [env_C, env_Y, env_g, env_lf, env_pick, env_alloc, env_box, env_build, env_buildSlice, env_load, env_store, env_ptr, env_bin, env_un, env_conv, env_make, env_slice, env_fieldAddr, env_field, env_indexAddr, env_index, env_extract, env_len, env_append, env_max, env_min, env_makeMap, env_lookup, env_update, env_clos, env_bstr, env_ext])
      refine next _ _ (Nat.lt_succ_self _) ⟨a + 1, rfl, by omega, by omega, fun r c hb hr => ?_⟩
      by_cases hra : r < (a : Int)
      · exact hno r c hb hra
      · obtain rfl : r = (a : Int) := by omega
        refine hno2 c hb ?_
        obtain ⟨R, C, _, rfl, _, _, _, b4, _⟩ := boardB_nat hb
        omega
    | succ m2 =>
      have e1 := boardOk_N g lf n (by omega) h (a : Int) (b : Int)
      cases hb : boardB (a : Int) (b : Int) with
      | false =>
        rw [hb] at e1
        repeat (first | with_reducible refine wT ?_ | with_reducible refine wF ?_ | with_reducible refine wg0 rfl ?_ | with_reducible refine wpF ?_ | with_reducible refine wsm ?_ | with_reducible refine wbd (by assumption) ?_ | with_reducible refine wadd1 (by omega) ?_ | with_reducible refine wleqT (by omega) ?_ | dsimp only)
        refine next2 _ _ (Nat.lt_succ_self _) ⟨b + 1, rfl, by omega, by omega, fun c hc hlt => ?_⟩
        by_cases hcb : c < (b : Int)
        · exact hno2 c hc hcb
        · obtain rfl : c = (b : Int) := by omega
          rw [hb] at hc; cases hc
      | true =>
        rw [hb] at e1
        have e2 := boardText_N g lf (R := a) (C := b) (by omega) (by omega) n (by omega) h
        by_cases he : boardT (a : Int) (b : Int) = s
        · repeat (first | with_reducible refine wT ?_ | with_reducible refine wg1 rfl ?_ | with_reducible refine wpT ?_ | with_reducible refine wpv ?_ | with_reducible refine wsm ?_ | with_reducible refine wrI ?_ | with_reducible refine wrB ?_ | with_reducible refine wbd (by assumption) ?_ | (with_reducible refine wseqT he ?_) | with_reducible refine wleqT (by omega) ?_ | rw [kLoop_ret] | rw [impl_readBoard.K0_ret] | rw [impl_readBoard.K1_ret] | rw [impl_readBoard.top_sr_2_3_4] | dsimp only)
          exact W.ret ⟨_, _, true, rfl, rfl, fun _ => ⟨hb, he⟩, by simp⟩
        · repeat (first | with_reducible refine wT ?_ | with_reducible refine wF ?_ | with_reducible refine wg1 rfl ?_ | with_reducible refine wpT ?_ | with_reducible refine wpv ?_ | with_reducible refine wsm ?_ | with_reducible refine wbd (by assumption) ?_ | (with_reducible refine wseqF he ?_) | with_reducible refine wadd1 (by omega) ?_ | with_reducible refine wleqT (by omega) ?_ | dsimp only)
          refine next2 _ _ (Nat.lt_succ_self _) ⟨b + 1, rfl, by omega, by omega, fun c hc hlt => ?_⟩
          by_cases hcb : c < (b : Int)
          · exact hno2 c hc hcb
          · obtain rfl : c = (b : Int) := by omega
            exact he

theorem readMoves_W (hlf : 1000 < lf) (r c : Int) (s : List UInt8) (hs : s.length ≤ 2 ^ 35) (hf : s.length + 1 < lf) (N : Nat) (hN : 8 ≤ N) (h : PHeap) :
    W (CL g lf N fn_impl_readMoves [.int .i64 r, .int .i64 c, .str (sB s)] h) fun v h' => ∃ q, v = .tup [q, .bool (movesO r c s).isSome] ∧ OwnSl h.length h' q ((movesO r c s).getD []) ∧ ((movesO r c s).getD []).length ≤ s.length ∧ Keep h.length h h' := by
  obtain ⟨n, rfl⟩ : ∃ n, N = n + 1 := ⟨N - 1, by omega⟩
  rw [impl_readMoves.call_eq]
  unfold impl_readMoves.main
  simp only [env_C, env_lf, env_load, env_bin, env_slice, env_indexAddr, env_len]
  refine wcall (split_W g lf hlf s 32 hs hf n (by omega) h) fun v h1 ⟨id, hv, o1, l1, k1⟩ => ?_
  subst hv
  have hwl := cut_length 32 s
  unfold movesO
  cases hc : cutL 32 s with
  | nil => exact absurd hc (cut_some 32 s)
  | cons w0 ws =>
  rw [hc] at o1 hwl
  have oT : OwnT h.length h1 (.sl id 0 (w0 :: ws).length) (w0 :: ws) := .inr ⟨id, l1, rfl, o1⟩
  obtain ⟨a0, e1, e2⟩ := oT.at0 (x := w0) rfl
  cases w0 with
  | cons x w0 =>
    repeat (first | with_reducible refine wT ?_ | with_reducible refine wrB ?_ | with_reducible refine wrN ?_ | with_reducible refine wbd (by assumption) ?_ | (with_reducible refine wsneT (by simp) ?_) | dsimp only)
    exact W.ret ⟨_, rfl, OwnSl.nil _ _, by simp, k1⟩
  | nil =>
    simp only
    rw [List.length_cons] at hwl
    repeat (first | with_reducible refine wF ?_ | with_reducible refine wbd (by assumption) ?_ | (with_reducible refine wsneF rfl ?_) | (with_reducible refine wttail o1 (by simp) ?_) | (with_reducible refine wtlen ?_))
    rw [show (([] : List UInt8) :: ws).length - 1 = ws.length by simp]
    refine loopW (fun m st => ∃ (k : Nat) (acc : List Int) (q : PV) (h2 : PHeap), st = impl_readMoves.st0 (.int .i64 r) (.int .i64 c) q (.sl id 1 ws.length) (.int .i64 (ws.length : Int)) (.int .i64 (k : Int)) h2 ∧ k + m = ws.length ∧ acc.length ≤ k ∧ OwnSl h1.length h2 q acc ∧ Keep h1.length h1 h2 ∧
      readM r c ws = (readM r c (ws.drop k)).map fun l => acc ++ l) ?_ lf ws.length _ (by omega) ⟨0, [], .nilsl, h1, rfl, by omega, by simp, OwnSl.nil _ _, Keep.refl _ _, by simp⟩
    rintro n1 m1 st ⟨k, acc, q, h2, rfl, hkm, hal, o2, k2, hM⟩ next
    have k12 : Keep h.length h h2 := k1.trans (k2.mono k1.1)
    have t2 := o1.keep k2
    rw [impl_readMoves.body0_eq]
    unfold impl_readMoves.body0
    simp only [env_C, env_buildSlice, env_load, env_bin, env_un, env_indexAddr, env_extract, env_append]
    cases m1 with
    | zero =>
      obtain rfl : k = ws.length := by omega
      rw [List.drop_length] at hM
      have hM' : readM r c ws = some acc := by rw [hM]; simp [readM]
      rw [hM']
      repeat (first | with_reducible refine wF ?_ | with_reducible refine wrB ?_ | (with_reducible refine wresO (by assumption) ?_) | with_reducible refine wlssF (by omega) ?_ | rw [kLoop_exit] | rw [impl_readMoves.after0_se0_0_1_9_21_22_23_24])
      exact W.ret ⟨_, rfl, o2.mono k1.1, by simp; omega, k12⟩
    | succ m1 =>
      have hk : k < ws.length := by omega
      have hd : ws.drop k = ws[k] :: ws.drop (k + 1) := List.drop_eq_getElem_cons hk
      rw [hd] at hM
      simp only [readM] at hM
      repeat (first | with_reducible refine wT ?_ | with_reducible refine wlssT (by omega) ?_)
      refine wtat1 t2 rfl (List.getElem?_eq_getElem hk) ?_
      refine wcall (readCell_W g lf hlf n (by omega) r c ws[k] h2) fun v h3 ⟨hv, k3⟩ => ?_
      subst hv
      cases hi : readI r c ws[k] with
      | none =>
        rw [hi] at hM
        have hM' : readM r c ws = none := hM
        rw [hM']
        unfold readV
        repeat (first | with_reducible refine wT ?_ | with_reducible refine wnF ?_ | with_reducible refine wrB ?_ | with_reducible refine wrN ?_ | with_reducible refine wx0 ?_ | with_reducible refine wx1 ?_ | rw [kLoop_ret] | rw [impl_readMoves.K0_ret] | rw [impl_readMoves.top_sr_6_7] | dsimp only)
        exact W.ret ⟨_, rfl, OwnSl.nil _ _, by simp, k12.trans (k3.mono k12.1)⟩
      | some j =>
        rw [hi] at hM
        unfold readV
        repeat (first | with_reducible refine wF ?_ | with_reducible refine wnT ?_ | with_reducible refine wx0 ?_ | with_reducible refine wx1 ?_ | dsimp only)
        refine wap (o2.keep k3) (Nat.le_trans k2.1 k3.1) (by omega) fun q4 h4 o4 k4 => ?_
        repeat (first | with_reducible refine wadd1 (by omega) ?_ | dsimp only)
        refine next _ _ (Nat.lt_succ_self _) ⟨k + 1, acc ++ [(j : Int)], q4, h4, rfl, by omega, by rw [List.length_append]; simp; omega, o4, k2.trans ((k3.mono k2.1).trans k4), ?_⟩
        rw [hM]
        cases readM r c (ws.drop (k + 1)) with
        | none => rfl
        | some l => simp

theorem readRecord_W (hlf : 1000 < lf) (s : List UInt8) {h : PHeap} (ht : TabOk g h) (hs : s.length ≤ 2 ^ 35) (hf : s.length + 1 < lf) (N : Nat) (hN : 43 ≤ N) :
    W (CL g lf N fn_impl_ReadRecord [.str (sB s)] h) fun v h' => RecV h.length h' v (readR s) ∧ Keep h.length h h' := by
  obtain ⟨n, rfl⟩ : ∃ n, N = n + 1 := ⟨N - 1, by omega⟩
  have none_ : ∀ h', Keep h.length h h' → RecV h.length h' (.tup [.int .i64 0, .int .i64 0, .nilsl, .bool false]) none := fun h' _ => ⟨.nilsl, rfl, OwnSl.nil _ _⟩
  rw [impl_ReadRecord.call_eq]
  unfold impl_ReadRecord.main
  simp only [env_C, env_pick, env_un, env_extract]
  rcases text_cut 58 s with hno | ⟨b, names, rfl, hb⟩
  · have e1 := cutNo_N g lf hno n (by omega) h
    rw [readR_no hno]
    repeat (first | with_reducible refine wx0 ?_ | with_reducible refine wx1 ?_ | with_reducible refine wx2 ?_ | with_reducible refine wbd (by assumption) ?_ | dsimp only)
    refine wcall (readBoard_W g lf hlf s n (by omega) h) fun v h1 ⟨r, c, ok, hv, hh, _, _⟩ => ?_
    subst hv hh
    repeat (first | with_reducible refine wT ?_ | with_reducible refine wg0 rfl ?_ | with_reducible refine wpT ?_ | with_reducible refine wnF ?_ | with_reducible refine wsm ?_ | with_reducible refine wrI ?_ | with_reducible refine wrB ?_ | with_reducible refine wrN ?_ | with_reducible refine wx0 ?_ | with_reducible refine wx1 ?_ | with_reducible refine wx2 ?_ | dsimp only)
    exact W.ret ⟨none_ _ (Keep.refl _ _), Keep.refl _ _⟩
  · rw [List.length_append, List.length_cons] at hs hf
    have e1 := cutYes_N g lf (rest := names) hb (by omega) n (by omega) h
    repeat (first | with_reducible refine wx0 ?_ | with_reducible refine wx1 ?_ | with_reducible refine wx2 ?_ | with_reducible refine wbd (by assumption) ?_ | dsimp only)
    refine wcall (readBoard_W g lf hlf b n (by omega) h) fun v h1 ⟨r, c, ok, hv, hh, hok, hnok⟩ => ?_
    subst hv hh
    cases ok with
    | false =>
      obtain ⟨rfl, rfl, hn⟩ := hnok rfl
      rw [readR_noboard hb hn]
      repeat (first | with_reducible refine wT ?_ | with_reducible refine wg1 rfl ?_ | with_reducible refine wpF ?_ | with_reducible refine wnT ?_ | with_reducible refine wnF ?_ | with_reducible refine wpv ?_ | with_reducible refine wsm ?_ | with_reducible refine wrI ?_ | with_reducible refine wrB ?_ | with_reducible refine wrN ?_ | with_reducible refine wx0 ?_ | with_reducible refine wx1 ?_ | with_reducible refine wx2 ?_ | dsimp only)
      exact W.ret ⟨none_ _ (Keep.refl _ _), Keep.refl _ _⟩
    | true =>
      obtain ⟨hbb, rfl⟩ := hok rfl
      rw [readR_moves hbb]
      repeat (first | with_reducible refine wF ?_ | with_reducible refine wg1 rfl ?_ | with_reducible refine wpF ?_ | with_reducible refine wnT ?_ | with_reducible refine wpv ?_ | with_reducible refine wsm ?_ | with_reducible refine wx0 ?_ | with_reducible refine wx1 ?_ | with_reducible refine wx2 ?_ | dsimp only)
      refine wcall (readMoves_W g lf hlf r c names (by omega) (by omega) n (by omega) h1) fun v h2 ⟨q, hv, o2, hl2, k2⟩ => ?_
      subst hv
      cases hm : movesO r c names with
      | none =>
        rw [Option.bind_none]
        repeat (first | with_reducible refine wx0 ?_ | with_reducible refine wx1 ?_ | dsimp only)
        exact W.ret ⟨none_ _ k2, k2⟩
      | some ms =>
        rw [hm] at o2 hl2
        simp only [Option.getD_some] at o2 hl2
        rw [Option.bind_some]
        simp only [Option.isSome_some]
        repeat (first | with_reducible refine wg1 rfl ?_ | with_reducible refine wnT ?_ | with_reducible refine wsm ?_ | with_reducible refine wx0 ?_ | with_reducible refine wx1 ?_ | dsimp only)
        refine wcall (recordOk_W g lf hlf r c (ht.keep k2) o2.int (by omega) (by omega) n (by omega)) fun v h3 ⟨hv, k3⟩ => ?_
        subst hv
        have k13 := k2.trans (k3.mono k2.1)
        cases hr : recB r c ms with
        | false =>
          rw [if_neg (by decide)]
          repeat (first | with_reducible refine wT ?_ | with_reducible refine wg1 rfl ?_ | with_reducible refine wpF ?_ | with_reducible refine wnF ?_ | with_reducible refine wpv ?_ | with_reducible refine wrI ?_ | with_reducible refine wrB ?_ | with_reducible refine wrN ?_ | dsimp only)
          exact W.ret ⟨none_ _ k13, k13⟩
        | true =>
          rw [if_pos rfl]
          have o3 := o2.keep k3
          repeat (first | with_reducible refine wF ?_ | with_reducible refine wg1 rfl ?_ | with_reducible refine wpF ?_ | with_reducible refine wnT ?_ | with_reducible refine wpv ?_ | with_reducible refine wrI ?_ | with_reducible refine wrB ?_ | (with_reducible refine wresO o3 ?_) | dsimp only)
          refine W.ret ?_
          show RecV h1.length h3 _ (some (r, c, ms)) ∧ Keep h1.length h1 h3
          exact ⟨⟨q, rfl, o3⟩, k13⟩
theorem readRecordOk (hlf : 1048580 < lf) : ReadRecordOk g lf := fun N hN s h ht hs => by
  obtain ⟨_, h', e, ⟨q, rfl, o⟩, k⟩ := readRecord_W g lf (by omega) s ht (by omega) (by omega) N (by omega)
  exact ⟨q, h', e, o, k⟩

end Go.Proofs.YtpaehbfknlpkbadDoor

