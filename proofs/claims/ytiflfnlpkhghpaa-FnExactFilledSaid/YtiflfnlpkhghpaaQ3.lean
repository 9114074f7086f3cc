/- Promises 13 and 14 over what the program's functions are asked to compute. -/
import Derived.Test.YtiflfnlpkhghpaaQ2
namespace Go.Proofs.Ytiflfnlpkhghpaa
open Go Go.Ip G

/-! ### the cells that close a gap -/
theorem gc_mem {r c p : Int} {xs : List Int} (h0 : 0 < gapL r c xs p) {k : Nat} (hk : xs[k]? = some 0) : (k : Int) ∈ gapCellsL r c xs p ↔ gapL r c (xs.set k p) p = gapL r c xs p - 1 := by
  have hkl : k < xs.length := (List.getElem?_eq_some_iff.1 hk).1
  have hgd : xs.getD k 0 = 0 := by rw [List.getD_eq_getElem?_getD, hk]; rfl
  unfold gapCellsL
  rw [if_pos h0, List.mem_map]
  constructor
  · rintro ⟨j, hj, e⟩
    obtain rfl : j = k := by omega
    rw [List.mem_filter, Bool.and_eq_true, decide_eq_true_iff, decide_eq_true_iff] at hj
    exact hj.2.2
  · intro h
    refine ⟨k, ?_, rfl⟩
    rw [List.mem_filter, Bool.and_eq_true, decide_eq_true_iff, decide_eq_true_iff, List.mem_range]
    exact ⟨hkl, hgd, h⟩

theorem gc_sorted (r c : Int) (xs : List Int) (p : Int) : ∀ i (hi : i + 1 < (gapCellsL r c xs p).length), (gapCellsL r c xs p)[i] < (gapCellsL r c xs p)[i + 1] := by
  have hs : (gapCellsL r c xs p).Pairwise (· < ·) := by
    unfold gapCellsL
    split
    · rw [List.pairwise_map]
      refine (List.Pairwise.filter _ List.pairwise_lt_range).imp ?_
      intro a b h; omega
    · exact List.Pairwise.nil
  intro i hi
  exact List.pairwise_iff_getElem.1 hs i (i + 1) (by omega) hi (by omega)

theorem gc_count {R C P : Nat} {xs : List Int} (hb : posB (R : Int) (C : Int) xs = true) (hs : Sides (R : Int) (C : Int) R C xs) (hP : P = 1 ∨ P = 2) (h0 : 0 < gapL (R : Int) (C : Int) xs (P : Int)) : gapL (R : Int) (C : Int) xs (P : Int) ≤ ((gapCellsL (R : Int) (C : Int) xs (P : Int)).length : Int) := by
  have h9 := hs.2.2.2.2.2.2.1
  have hlen := hs.2.2.2.2.2.2.2.1
  have hge := gapL_eq hb hP
  rcases gap_spec (P := P) hs with ⟨G, hG, hg⟩ | ⟨hG, _⟩
  · have hc := good_count h9 (set_lt9 hs _) (set_lt hs 0) hg
    have hl : (gapCellsL (R : Int) (C : Int) xs (P : Int)).length = (List.range (R * C)).countP (goodB (masksN R C) (setL xs (P : Int)) (setL xs 0) (sideN R C P false) (sideN R C P true) (R * C)) := by
      unfold gapCellsL
      rw [if_pos h0, List.length_map, ← List.countP_eq_length_filter, hlen]
      apply List.countP_congr
      intro k hk
      rw [List.mem_range] at hk
      have hkl : k < xs.length := by omega
      unfold goodB
      rw [Bool.and_eq_true, Bool.and_eq_true, decide_eq_true_iff, decide_eq_true_iff, decide_eq_true_iff, setL_bit]
      have hgd : xs.getD k 0 = 0 ↔ xs[k]? = some 0 := by
        rw [List.getD_eq_getElem?_getD, List.getElem?_eq_getElem hkl]; simp
      rw [hgd]
      refine and_congr_right fun hz => ?_
      obtain ⟨e1, e2, _⟩ := set_more hs hP hz
      rw [gapL_eq (pos_set hb hP k) hP, hge, e1, e2]
    rw [hge, hG, hl]
    omega
  · rw [hge, hG]; omega

variable (g : Nat → PV) (lf n : Nat)

/-! ### gaps of free boards, and mirrored -/
theorem free_all : (boards.all fun b => decide (gapL (b.1 : Int) (b.2 : Int) (List.replicate (b.1 * b.2) 0) 1 = (b.1 : Int)) && decide (gapL (b.1 : Int) (b.2 : Int) (List.replicate (b.1 * b.2) 0) 2 = (b.2 : Int))) = true := by kernel_rfl

def mirOkB (R C : Nat) : Bool :=
  ((List.range (R * C)).all fun k => (List.range (R * C)).all fun j => ((masksN R C).getD k 0).testBit j == ((masksN C R).getD (sig C R k) 0).testBit (sig C R j)) &&
  ((List.range (R * C)).all fun j => [1, 2].all fun P => [true, false].all fun last => (sideN R C P last).testBit j == (sideN C R (3 - P) last).testBit (sig C R j))
theorem mirOk_all : (boards.all fun b => mirOkB b.1 b.2) = true := by kernel_rfl

theorem cost_mirror {R C P : Nat} {r c : Int} {xs : List Int} (hs : Sides r c R C xs) (hP : P = 1 ∨ P = 2) {k j : Nat} (h : Cost (masksN R C) (sideN R C P false) (setL xs (P : Int)) (setL xs 0) k j) :
    Cost (masksN C R) (sideN C R (3 - P) false) (setL (mir R C xs) ((3 - P : Nat) : Int)) (setL (mir R C xs) 0) k (sig C R j) := by
  have hm := List.all_eq_true.1 mirOk_all (R, C) (board_mem (board_of_sides hs))
  unfold mirOkB at hm
  rw [Bool.and_eq_true] at hm
  have hadj : ∀ i j, i < R * C → j < R * C → Adj (masksN R C) i j → Adj (masksN C R) (sig C R i) (sig C R j) := fun i j hi hj ha => by
    have := List.all_eq_true.1 (List.all_eq_true.1 hm.1 i (by rw [List.mem_range]; exact hi)) j (by rw [List.mem_range]; exact hj)
    rw [beq_iff_eq] at this
    unfold Adj at ha ⊢
    rw [← this]; exact ha
  have hedge : ∀ j, j < R * C → (sideN R C P false).testBit j = true → (sideN C R (3 - P) false).testBit (sig C R j) = true := fun j hj he => by
    have := List.all_eq_true.1 hm.2 j (by rw [List.mem_range]; exact hj)
    have := List.all_eq_true.1 this P (by rcases hP with rfl | rfl <;> simp)
    have := List.all_eq_true.1 this false (by simp)
    rw [beq_iff_eq] at this
    rw [← this]; exact he
  have hown : ∀ j, (setL xs (P : Int)).testBit j = true → (setL (mir R C xs) ((3 - P : Nat) : Int)).testBit (sig C R j) = true := fun j hj => by
    rw [← swap_player hP, setL_mir hs, moved_bit]
    exact ⟨j, set_in hs hj, hj, rfl⟩
  have hfree : ∀ j, (setL xs 0).testBit j = true → (setL (mir R C xs) 0).testBit (sig C R j) = true := fun j hj => by
    have e : setL (mir R C xs) 0 = moved (sig C R) (setL xs 0) (R * C) := setL_mir hs 0
    rw [e, moved_bit]
    exact ⟨j, set_in hs hj, hj, rfl⟩
  have hin : ∀ {k j}, Cost (masksN R C) (sideN R C P false) (setL xs (P : Int)) (setL xs 0) k j → j < R * C := fun h => by
    cases h with
    | ownEdge _ h => exact set_in hs h
    | freeEdge _ h => exact set_in hs h
    | ownStep _ _ h => exact set_in hs h
    | freeStep _ _ h => exact set_in hs h
  induction h with
  | ownEdge h ho => exact .ownEdge (hedge _ (set_in hs ho) h) (hown _ ho)
  | freeEdge h hf => exact .freeEdge (hedge _ (set_in hs hf) h) (hfree _ hf)
  | ownStep h ha ho ih => exact .ownStep ih (hadj _ _ (hin h) (set_in hs ho) ha) (hown _ ho)
  | freeStep h ha hf ih => exact .freeStep ih (hadj _ _ (hin h) (set_in hs hf) ha) (hfree _ hf)

theorem hits_mirror {R C P : Nat} {r c : Int} {xs : List Int} (hs : Sides r c R C xs) (hP : P = 1 ∨ P = 2) {k : Nat} (h : Hits (masksN R C) (setL xs (P : Int)) (setL xs 0) (sideN R C P false) (sideN R C P true) k) :
    Hits (masksN C R) (setL (mir R C xs) ((3 - P : Nat) : Int)) (setL (mir R C xs) 0) (sideN C R (3 - P) false) (sideN C R (3 - P) true) k := by
  obtain ⟨j, hj, hc⟩ := h
  have hm := List.all_eq_true.1 mirOk_all (R, C) (board_mem (board_of_sides hs))
  unfold mirOkB at hm
  rw [Bool.and_eq_true] at hm
  have hjn : j < R * C := by
    cases hc with
    | ownEdge _ h => exact set_in hs h
    | freeEdge _ h => exact set_in hs h
    | ownStep _ _ h => exact set_in hs h
    | freeStep _ _ h => exact set_in hs h
  have := List.all_eq_true.1 hm.2 j (by rw [List.mem_range]; exact hjn)
  have := List.all_eq_true.1 this P (by rcases hP with rfl | rfl <;> simp)
  have := List.all_eq_true.1 this true (by simp)
  rw [beq_iff_eq] at this
  exact ⟨sig C R j, by rw [← this]; exact hj, cost_mirror hs hP hc⟩

theorem sides_mir {R C : Nat} {xs : List Int} (hb : posB (R : Int) (C : Int) xs = true) (hs : Sides (R : Int) (C : Int) R C xs) : Sides (C : Int) (R : Int) C R (mir R C xs) := by
  have hmb := posB_mir hs hb
  obtain ⟨R', C', hS'⟩ := sides_of hmb
  obtain ⟨a1, a2, rest⟩ := id hS'
  obtain rfl : R' = C := by omega
  obtain rfl : C' = R := by omega
  exact hS'

theorem gap_mirror {R C P : Nat} {xs : List Int} (hb : posB (R : Int) (C : Int) xs = true) (hs : Sides (R : Int) (C : Int) R C xs) (hP : P = 1 ∨ P = 2) : gapL (C : Int) (R : Int) (mir R C xs) ((3 - P : Nat) : Int) = gapL (R : Int) (C : Int) xs (P : Int) := by
  have hmb := posB_mir hs hb
  have hs' := sides_mir hb hs
  have hP' : 3 - P = 1 ∨ 3 - P = 2 := by omega
  have fwd : ∀ k, Hits (masksN R C) (setL xs (P : Int)) (setL xs 0) (sideN R C P false) (sideN R C P true) k → Hits (masksN C R) (setL (mir R C xs) ((3 - P : Nat) : Int)) (setL (mir R C xs) 0) (sideN C R (3 - P) false) (sideN C R (3 - P) true) k := fun k h => hits_mirror hs hP h
  have bwd : ∀ k, Hits (masksN C R) (setL (mir R C xs) ((3 - P : Nat) : Int)) (setL (mir R C xs) 0) (sideN C R (3 - P) false) (sideN C R (3 - P) true) k → Hits (masksN R C) (setL xs (P : Int)) (setL xs 0) (sideN R C P false) (sideN R C P true) k := fun k h => by
    have := hits_mirror hs' hP' h
    rw [mir_mir hs.2.2.1 hs.2.2.2.1 hs.2.2.2.2.1 hs.2.2.2.2.2.1 hs.2.2.2.2.2.2.1 hs.2.2.2.2.2.2.2.1, show 3 - (3 - P) = P by omega] at this
    exact this
  rw [gapL_eq hmb hP', gapL_eq hb hP]
  rcases gap_spec (P := P) hs with ⟨k, hk, hg⟩ | ⟨hk, hn⟩
  · rcases gap_spec (P := 3 - P) hs' with ⟨k', hk', hg'⟩ | ⟨_, hn'⟩
    · have : IsGap (masksN R C) (setL xs (P : Int)) (setL xs 0) (sideN R C P false) (sideN R C P true) k' := ⟨bwd _ hg'.1, fun i hi h => hg'.2 i hi (fwd i h)⟩
      rw [hk, hk', hg.unique this]
    · exact absurd (fwd _ hg.1) (hn' _)
  · rcases gap_spec (P := 3 - P) hs' with ⟨k', _, hg'⟩ | ⟨hk', _⟩
    · exact absurd (bwd _ hg'.1) (hn _)
    · rw [hk, hk']

end Go.Proofs.Ytiflfnlpkhghpaa
