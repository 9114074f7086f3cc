/- Promises 10 and 15 over what the program's functions are asked to compute. -/
import Derived.Test.YtiflfnlpkhghpaaQ3
namespace Go.Proofs.Ytiflfnlpkhghpaa
open Go Go.Ip G

/-! ### lists of sets -/
theorem listFrom_mem (S : Nat) (e : Int) : ∀ (m k : Nat), e ∈ listFrom S m k ↔ ∃ j : Nat, e = (j : Int) ∧ k ≤ j ∧ j < k + m ∧ S.testBit j = true
  | 0, k => by
    rw [listFrom]
    constructor
    · intro h; simp at h
    · rintro ⟨j, _, h1, h2, _⟩; omega
  | m + 1, k => by
    have ih := listFrom_mem S e m (k + 1)
    rw [listFrom]
    by_cases hb : S >>> k % 2 = 1
    · rw [if_pos hb, List.mem_cons, ih]
      constructor
      · rintro (h | ⟨j, h1, h2, h3, h4⟩)
        · exact ⟨k, h, Nat.le_refl _, by omega, (bit_iff S k).1 hb⟩
        · exact ⟨j, h1, by omega, by omega, h4⟩
      · rintro ⟨j, h1, h2, h3, h4⟩
        by_cases e2 : j = k
        · exact .inl (by rw [h1, e2])
        · exact .inr ⟨j, h1, by omega, by omega, h4⟩
    · rw [if_neg hb, ih]
      constructor
      · rintro ⟨j, h1, h2, h3, h4⟩
        exact ⟨j, h1, by omega, by omega, h4⟩
      · rintro ⟨j, h1, h2, h3, h4⟩
        by_cases e2 : j = k
        · subst e2; exact absurd ((bit_iff S j).2 h4) hb
        · exact ⟨j, h1, by omega, by omega, h4⟩

theorem listN_mem {S : Nat} (hS : S < 2 ^ 9) (e : Int) : e ∈ listN S ↔ ∃ j : Nat, e = (j : Int) ∧ S.testBit j = true := by
  unfold listN
  rw [listFrom_mem]
  constructor
  · rintro ⟨j, h1, _, _, h4⟩; exact ⟨j, h1, h4⟩
  · rintro ⟨j, h1, h4⟩; exact ⟨j, h1, Nat.zero_le _, by have := bit_small hS h4; omega, h4⟩

theorem listFrom_sorted (S : Nat) : ∀ (m k : Nat), (listFrom S m k).Pairwise (· < ·)
  | 0, _ => List.Pairwise.nil
  | m + 1, k => by
    have ih := listFrom_sorted S m (k + 1)
    rw [listFrom]
    split
    · refine List.pairwise_cons.2 ⟨fun e he => ?_, ih⟩
      obtain ⟨j, h1, h2, _, _⟩ := (listFrom_mem S e m (k + 1)).1 he
      omega
    · exact ih

theorem listN_sorted (S : Nat) : ∀ i (hi : i + 1 < (listN S).length), (listN S)[i] < (listN S)[i + 1] := fun i hi =>
  List.pairwise_iff_getElem.1 (listFrom_sorted S 9 0) i (i + 1) (by have : i + 1 < (listN S).length := hi; unfold listN at this; omega) hi (by omega)

/-! ### masks -/
def maskOkB (R C : Nat) : Bool :=
  (masksN R C).all (fun m => decide (m < 2 ^ (R * C))) && ((List.range (R * C)).all fun k => (List.range (R * C)).all fun j =>
    (((masksN R C).getD k 0).testBit j == ((masksN R C).getD j 0).testBit k) && (((masksN R C).getD k 0).testBit j == decide ((j : Int) ∈ nearN R C k)))
theorem maskOk_all : (boards.all fun b => maskOkB b.1 b.2) = true := by kernel_rfl

theorem adj_in {R C k j : Nat} (hB : BoardOf R C) (h : Adj (masksN R C) k j) : k < R * C ∧ j < R * C := by
  unfold Adj at h
  have hk : k < (masksN R C).length := by
    rcases Nat.lt_or_ge k (masksN R C).length with hlt | hge
    · exact hlt
    · rw [List.getD_eq_getElem?_getD, List.getElem?_eq_none hge] at h
      simp at h
  have hm := List.all_eq_true.1 maskOk_all (R, C) (board_mem hB)
  unfold maskOkB at hm
  rw [Bool.and_eq_true] at hm
  rw [List.getD_eq_getElem?_getD, List.getElem?_eq_getElem hk] at h
  have := List.all_eq_true.1 hm.1 _ (List.getElem_mem hk)
  have := of_decide_eq_true this
  exact ⟨by rw [masksN_length] at hk; exact hk, bit_small this h⟩

theorem adj_sym {R C : Nat} (hB : BoardOf R C) : ∀ k j, Adj (masksN R C) k j → Adj (masksN R C) j k := by
  intro k j h
  obtain ⟨hk, hj⟩ := adj_in hB h
  have hm := List.all_eq_true.1 maskOk_all (R, C) (board_mem hB)
  unfold maskOkB at hm
  rw [Bool.and_eq_true] at hm
  have := List.all_eq_true.1 (List.all_eq_true.1 hm.2 k (by rw [List.mem_range]; exact hk)) j (by rw [List.mem_range]; exact hj)
  rw [Bool.and_eq_true, beq_iff_eq, beq_iff_eq] at this
  unfold Adj at h ⊢
  rw [← this.1]; exact h

theorem adj_near {R C k j : Nat} (hB : BoardOf R C) (hk : k < R * C) (hj : j < R * C) (h : (j : Int) ∈ nearN R C k) : Adj (masksN R C) k j := by
  have hm := List.all_eq_true.1 maskOk_all (R, C) (board_mem hB)
  unfold maskOkB at hm
  rw [Bool.and_eq_true] at hm
  have := List.all_eq_true.1 (List.all_eq_true.1 hm.2 k (by rw [List.mem_range]; exact hk)) j (by rw [List.mem_range]; exact hj)
  rw [Bool.and_eq_true, beq_iff_eq, beq_iff_eq] at this
  unfold Adj
  rw [this.2, decide_eq_true_iff]; exact h

/-! ### groups -/
theorem reach_one {M : List Nat} {S k : Nat} (hk : S.testBit k = true) : Reach M S (1 <<< k) k := .start (by rw [one_bit]; simp) hk

theorem group_same {R C S k j : Nat} (hB : BoardOf R C) (hS : S < 2 ^ 9) (hk : S.testBit k = true) (h : Reach (masksN R C) S (1 <<< k) j) : growN (masksN R C) S (1 <<< j) = growN (masksN R C) S (1 <<< k) := by
  apply Nat.eq_of_testBit_eq
  intro i
  rw [Bool.eq_iff_iff, grow_bit hS, grow_bit hS]
  have one : ∀ {a : Nat} {x : Nat}, (1 <<< a).testBit x = true → x = a := fun {a x} hx => by rw [one_bit] at hx; exact of_decide_eq_true hx
  constructor
  · exact Reach.trans fun x hx => by rw [one hx]; exact h
  · exact Reach.trans fun x hx => by rw [one hx]; exact Reach.back (adj_sym hB) hk h

theorem groupL_stone {R C K : Nat} {xs : List Int} (hb : posB (R : Int) (C : Int) xs = true) {x : Int} (hx : xs[K]? = some x) (hz : x ≠ 0) : groupL (R : Int) (C : Int) xs (K : Int) = listN (growN (masksN R C) (setL xs x) (1 <<< K)) := by
  have hK : K < xs.length := (List.getElem?_eq_some_iff.1 hx).1
  have hgd : xs.getD K 0 = x := by rw [List.getD_eq_getElem?_getD, hx]; rfl
  unfold groupL stoneB
  rw [hb, decide_eq_true ⟨by omega, by omega⟩, show ((K : Int).toNat) = K from rfl, hgd, decide_eq_false hz]
  rfl

variable (g : Nat → PV) (lf n : Nat)

theorem loadAt {xs : List Int} {p a : PV} {h : PHeap} {i : Nat} (hp : IntSl .i64 h p xs) (hi : i < xs.length) (ha : indexAddrP Try.prog 22 p (.int .i64 (i : Int)) = some a) : loadP Try.prog 3 a h = some (.int .i64 xs[i]) := by
  obtain ⟨a', ha', hla⟩ := hp.at' hi
  obtain rfl : a = a' := Option.some.inj (ha.symm.trans ha')
  exact hla

end Go.Proofs.Ytiflfnlpkhghpaa
