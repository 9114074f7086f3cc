/- Texts of this seat, in their order, put together by program. -/
import Derived.Test.YtbmmcldbllhhhaaDoorK10
set_option linter.unusedSimpArgs false
set_option linter.unusedVariables false
set_option linter.unusedSectionVars false
/- What the program's functions of chapter 10 compute. -/
set_option maxRecDepth 20000
namespace Go.Proofs.YtbmmcldbllhhhaaDoor
open Go Go.Ip G

/-! ### what holds of trees and of pairs of them -/
theorem treeW_short {nodes : Nat} {vs : List (Nat × Nat)} (hn : NetN nodes vs) {S X : Nat} (hS : S < 2 ^ vs.length) (hX : X < 2 ^ 5) : treeW vs S X = (decide (pop S + 1 = pop X) && decide (reachW vs S 0 = X)) := by
  rw [Bool.eq_iff_iff, tree_iff hn hS hX, Bool.and_eq_true, decide_eq_true_iff, decide_eq_true_iff]
  have hr := fun j => reach_bit hn (set := S) (u := 0) (by have := hn.1; omega) j
  constructor
  · intro h
    refine ⟨h.2.2.1, ?_⟩
    apply Nat.eq_of_testBit_eq
    intro j
    rw [Bool.eq_iff_iff, hr, h.2.2.2]
  · rintro ⟨h1, h2⟩
    refine ⟨hS, hX, h1, fun v => ?_⟩
    rw [← h2]; exact hr v

theorem findSome_filter {α β : Type} (p : α → Bool) (f : α → Option β) : ∀ l : List α, (l.filter p).findSome? f = l.findSome? fun a => if p a = true then f a else none
  | [] => rfl
  | a :: l => by
    rw [List.filter_cons, List.findSome?_cons]
    cases h : p a with
    | true => rw [if_pos rfl, if_pos rfl, List.findSome?_cons, findSome_filter p f l]
    | false => rw [if_neg (by decide), if_neg (by decide), findSome_filter p f l]
theorem find_filter {α : Type} (p q : α → Bool) : ∀ l : List α, (l.filter p).find? q = l.find? fun a => p a && q a
  | [] => rfl
  | a :: l => by
    rw [List.filter_cons, List.find?_cons]
    cases h : p a with
    | true => rw [if_pos rfl, List.find?_cons, Bool.true_and, find_filter p q l]
    | false => rw [if_neg (by decide), Bool.false_and, find_filter p q l]
theorem find_none_app {α : Type} {q : α → Bool} {l1 l2 : List α} (h : ∀ a ∈ l1, q a = false) : (l1 ++ l2).find? q = l2.find? q := by
  induction l1 with
  | nil => rfl
  | cons a l1 ih =>
    rw [List.cons_append, List.find?_cons, h a (by simp)]
    exact ih fun b hb => h b (by simp [hb])

def treesX (vs : List (Nat × Nat)) (X : Nat) : List Nat := (List.range (2 ^ vs.length)).filter fun S => treeW vs S X
def pairBy (L : List Nat) (a : Nat) : Option (Nat × Nat) := (L.find? fun b => decide (a &&& b = 0)).map fun b => (a, b)
/-- The first of a list that has nothing in common with some other one, and the first of these. -/
def pairAll (L : List Nat) : Option (Nat × Nat) := L.findSome? (pairBy L)

theorem pair_among {vs : List (Nat × Nat)} {X T : Nat} (hirr : ∀ a b, treeW vs a X = true → a &&& b = 0 → a ≠ b) : ∀ m k, k + m = T → (∀ a b, a < k → b < T → treeW vs a X = true → treeW vs b X = true → a &&& b = 0 → False) →
    (List.range' k m).findSome? (fun a => if treeW vs a X = true then ((List.range T).find? fun b => treeW vs b X && decide (a &&& b = 0)).map (fun b => (a, b)) else none) =
    (List.range' k m).findSome? (fun a => if treeW vs a X = true then ((List.range' (a + 1) (T - (a + 1))).find? (pairBW vs X a)).map (fun b => (a, b)) else none)
  | 0, _, _, _ => rfl
  | m + 1, k, hk, H => by
    rw [List.range'_succ, List.findSome?_cons, List.findSome?_cons]
    have hkT : k < T := by omega
    have hpb : (fun b => treeW vs b X && decide (k &&& b = 0)) = pairBW vs X k := by
      funext b
      show _ = (decide (k &&& b = 0) && treeW vs b X)
      rw [Bool.and_comm]
    cases ht : treeW vs k X with
    | false =>
      rw [if_neg (by decide), if_neg (by decide)]
      refine pair_among hirr m (k + 1) (by omega) fun a b ha hb h1 h2 h3 => ?_
      by_cases hak : a = k
      · subst hak; rw [ht] at h1; cases h1
      · exact H a b (by omega) hb h1 h2 h3
    | true =>
      rw [if_pos rfl, if_pos rfl, hpb]
      have hsp : List.range T = List.range (k + 1) ++ List.range' (k + 1) (T - (k + 1)) := by
        rw [List.range_eq_range', List.range_eq_range']
        have := @List.range'_append 0 (k + 1) (T - (k + 1)) 1
        rw [Nat.one_mul, Nat.zero_add] at this
        rw [this]
        congr 1
        omega
      have hfi : (List.range T).find? (pairBW vs X k) = (List.range' (k + 1) (T - (k + 1))).find? (pairBW vs X k) := by
        rw [hsp]
        refine find_none_app fun b hb => ?_
        have hb := List.mem_range.1 hb
        show (decide (k &&& b = 0) && treeW vs b X) = false
        by_cases h0 : k &&& b = 0
        · cases htb : treeW vs b X with
          | false => rw [Bool.and_false]
          | true =>
            have hne := hirr k b ht h0
            exact absurd (by rw [Nat.and_comm]; exact h0) (fun h0' => H b k (by omega) hkT htb ht h0')
        · rw [decide_eq_false h0]; rfl
      rw [hfi]
      cases ho : (List.range' (k + 1) (T - (k + 1))).find? (pairBW vs X k) with
      | some b => rfl
      | none =>
        rw [ho] at hfi
        refine pair_among hirr m (k + 1) (by omega) fun a b ha hb h1 h2 h3 => ?_
        by_cases hak : a = k
        · subst hak
          have := List.find?_eq_none.1 hfi b (List.mem_range.2 hb)
          apply this
          show (decide (a &&& b = 0) && treeW vs b X) = true
          rw [decide_eq_true h3, h2]; rfl
        · exact H a b (by omega) hb h1 h2 h3

theorem pairAll_W {nodes : Nat} {vs : List (Nat × Nat)} (hn : NetN nodes vs) {X : Nat} (hX2 : 2 ≤ pop X) : pairAll (treesX vs X) = pairW vs X := by
  have h1 : pairAll (treesX vs X) = (List.range' 0 (2 ^ vs.length)).findSome? (fun a => if treeW vs a X = true then ((List.range (2 ^ vs.length)).find? fun b => treeW vs b X && decide (a &&& b = 0)).map (fun b => (a, b)) else none) := by
    unfold pairAll treesX
    rw [findSome_filter, List.range_eq_range']
    congr 1
    funext a
    unfold pairBy
    rw [find_filter]
  have h2 : pairW vs X = (List.range' 0 (2 ^ vs.length)).findSome? (fun a => if treeW vs a X = true then ((List.range' (a + 1) (2 ^ vs.length - (a + 1))).find? (pairBW vs X a)).map (fun b => (a, b)) else none) := by
    unfold pairW
    rw [List.range_eq_range']
    rfl
  rw [h1, h2]
  exact pair_among (fun a b ht h0 => pair_lt hn hX2 ht h0) _ 0 (Nat.zero_add _) fun a b ha => absurd ha (Nat.not_lt_zero _)

theorem find_four (P : Nat → Bool) : ∀ m, ((List.range (4 * m)).find? fun S => decide (S % 4 = 3) && P S) = ((List.range m).find? fun i => P (4 * i + 3)).map fun i => 4 * i + 3
  | 0 => rfl
  | m + 1 => by
    have h0 : decide ((4 * m) % 4 = 3) = false := decide_eq_false (by omega)
    have h1 : decide ((4 * m + 1) % 4 = 3) = false := decide_eq_false (by omega)
    have h2 : decide ((4 * m + 1 + 1) % 4 = 3) = false := decide_eq_false (by omega)
    have h3 : decide ((4 * m + 1 + 1 + 1) % 4 = 3) = true := decide_eq_true (by omega)
    rw [show 4 * (m + 1) = 4 * m + 1 + 1 + 1 + 1 by omega, List.range_succ, List.range_succ, List.range_succ, List.range_succ, List.range_succ, List.find?_append, List.find?_append, List.find?_append, List.find?_append, List.find?_append, find_four P m]
    simp only [List.find?_cons, List.find?_nil, h0, h1, h2, h3, Bool.false_and, Bool.true_and, Option.or_none]
    cases ((List.range m).find? fun i => P (4 * i + 3)) with
    | some i => rfl
    | none =>
      simp only [Option.map_none, Option.none_or]
      cases P (4 * m + 3) <;> rfl

theorem castN_length (L : List Nat) : (castN L).length = L.length := by unfold castN; rw [List.length_map]
theorem castN_get {L : List Nat} {i : Nat} (hi : i < (castN L).length) (hi2 : i < L.length) : (castN L)[i] = (L[i] : Int) := by simp [castN]
theorem treesX_len (vs : List (Nat × Nat)) (X : Nat) : (treesX vs X).length ≤ 2 ^ vs.length := by
  unfold treesX
  have := List.length_filter_le (fun S => treeW vs S X) (List.range (2 ^ vs.length))
  rwa [List.length_range] at this
theorem treesX_lt {vs : List (Nat × Nat)} {X a : Nat} (h : a ∈ treesX vs X) : a < 2 ^ vs.length := List.mem_range.1 (List.mem_filter.1 h).1
theorem and_three (x : Nat) : x &&& 3 = x % 4 := Nat.and_two_pow_sub_one_eq_mod x 2

variable (g : Nat → PV) (lf n : Nat)

theorem bind2 : ∀ (a : Option PV) (f : PV → Option PV) (k : PV → Res) (r : PV), a.bind f = some r → (a.bind fun v => (f v).bind k) = k r := by
  intro a f k r e
  cases a with
  | none => cases e
  | some x => simp only [Option.bind_some] at e ⊢; rw [e]; rfl
theorem allNodes_W {M : Nat} (hM : M ≤ 8) (N : Nat) (hN : 1 ≤ N) (h : PHeap) : CL g lf N fn_impl_allNodes [.int .i64 (M : Int)] h = some (.int .i64 ((2 ^ M - 1 : Nat) : Int), h) := by
  obtain ⟨n, rfl⟩ : ∃ n, N = n + 1 := ⟨N - 1, by omega⟩
  have hw := whole_at hM
  rw [impl_allNodes.call_eq]
  unfold impl_allNodes.main
  simp only [env_bin]
  rw [bind2 _ _ _ _ hw]
  rfl

/-! ### a tree -/
theorem treeOn_W {nodes : Nat} {vs : List (Nat × Nat)} (hn : NetN nodes vs) {p : PV} {h : PHeap} (hp : WSl h p (castW vs)) {S X : Nat} (hS : S < 2 ^ vs.length) (hX : X < 2 ^ 5) (hbig : Big g) (ht : Tab64 g h) (hlf : 1000 < lf) (N : Nat) (hN : 6 ≤ N) :
    ∃ h', CL g lf N fn_impl_treeOn [p, .int .i64 (X : Int), .int .i64 (S : Int)] h = some (.bool (treeW vs S X), h') ∧ Keep h.length h h' := by
  obtain ⟨n, rfl⟩ : ∃ n, N = n + 1 := ⟨N - 1, by omega⟩
  have hS9 := pow58 hS hn.2.2.1
  have e1 := countIn_W g lf n (by omega) h (x := S) hS9
  have e2 := countIn_W g lf n (by omega) h (x := X) (by omega)
  have pA := pop_le (n := 9) (by decide) hS9
  have pB := pop_le (n := 9) (x := X) (by decide) (by omega)
  rw [size_pop] at e1 e2
  have : W (CL g lf (n + 1) fn_impl_treeOn [p, .int .i64 (X : Int), .int .i64 (S : Int)] h) fun v h' => v = .bool (treeW vs S X) ∧ Keep h.length h h' := by
    rw [treeW_short hn hS hX]
    obtain ⟨A, hA⟩ : ∃ A, A = pop S := ⟨_, rfl⟩
    obtain ⟨B, hB⟩ : ∃ B, B = pop X := ⟨_, rfl⟩
    rw [← hA] at e1 pA ⊢
    rw [← hB] at e2 pB ⊢
    have hsb : -4611686018427387904 ≤ (B : Int) - 1 ∧ (B : Int) - 1 ≤ 4611686018427387904 := by omega
    rw [impl_treeOn.call_eq]
    unfold impl_treeOn.main
    simp only [env_C, env_pick, env_bin]
    by_cases hc : A + 1 = B
    · have hc' : (A : Int) = (B : Int) - 1 := by omega
      rw [decide_eq_true hc, Bool.true_and]
      repeat (first | with_reducible refine wg1 rfl ?_ | with_reducible refine wsm ?_ | with_reducible refine wbd (by assumption) ?_ | (with_reducible refine wsub hsb ?_) | with_reducible refine weqlT (by omega) ?_ | dsimp only)
      refine wcall (reached_W g lf hn hp hS hbig ht hlf n (by omega)) fun v h1 ⟨hv, k1⟩ => ?_
      subst hv
      obtain ⟨Y, hY⟩ : ∃ Y, Y = reachW vs S 0 := ⟨_, rfl⟩
      rw [← hY]
      by_cases hy : Y = X
      · have hy' : (Y : Int) = (X : Int) := by omega
        rw [decide_eq_true hy]
        repeat (first | with_reducible refine wg1 rfl ?_ | with_reducible refine wpT ?_ | with_reducible refine wpv ?_ | with_reducible refine wsm ?_ | with_reducible refine wrB ?_ | with_reducible refine weqlT (by omega) ?_ | dsimp only)
        exact W.ret ⟨rfl, k1⟩
      · have hy' : ¬ (Y : Int) = (X : Int) := by omega
        rw [decide_eq_false hy]
        repeat (first | with_reducible refine wg1 rfl ?_ | with_reducible refine wpT ?_ | with_reducible refine wpv ?_ | with_reducible refine wsm ?_ | with_reducible refine wrB ?_ | with_reducible refine weqlF (by omega) ?_ | dsimp only)
        exact W.ret ⟨rfl, k1⟩
    · have hc' : ¬ (A : Int) = (B : Int) - 1 := by omega
      rw [decide_eq_false hc, Bool.false_and]
      repeat (first | with_reducible refine wg0 rfl ?_ | with_reducible refine wpF ?_ | with_reducible refine wsm ?_ | with_reducible refine wrB ?_ | with_reducible refine wbd (by assumption) ?_ | (with_reducible refine wsub hsb ?_) | with_reducible refine weqlF (by omega) ?_ | dsimp only)
      exact W.ret ⟨rfl, Keep.refl _ _⟩
  obtain ⟨_, h', e, rfl, k⟩ := this
  exact ⟨h', e, k⟩

/-! ### all trees -/
theorem treesOn_W {nodes : Nat} {vs : List (Nat × Nat)} (hn : NetN nodes vs) {p : PV} {h : PHeap} (hp : WSl h p (castW vs)) {X : Nat} (hX : X < 2 ^ 5) (hbig : Big g) (ht : Tab64 g h) (hlf : 1000 < lf) (N : Nat) (hN : 7 ≤ N) :
    W (CL g lf N fn_impl_treesOn [p, .int .i64 (X : Int)] h) fun q h' => OwnSl h.length h' q (castN (treesX vs X)) ∧ Keep h.length h h' := by
  obtain ⟨n, rfl⟩ : ∃ n, N = n + 1 := ⟨N - 1, by omega⟩
  have h8 := hn.2.2.1
  have ea := allWires_W g lf hp (by rw [castW_length]; exact h8) n (by omega)
  rw [castW_length] at ea
  have h28 : 2 ^ vs.length ≤ 2 ^ 8 := Nat.pow_le_pow_right (by decide) h8
  have h20 := Nat.two_pow_pos vs.length
  have hpo := partsOf_W g lf (F := 2 ^ vs.length - 1) (by omega) n (by omega) hlf h
  rw [allParts h8] at hpo
  rw [impl_treesOn.call_eq]
  unfold impl_treesOn.main
  simp only [env_C, env_lf, env_len]
  repeat (first | with_reducible refine wbd (by assumption) ?_ | dsimp only)
  refine wcall hpo fun q1 h1 ⟨o1, k1⟩ => ?_
  have hll : ((List.range (2 ^ vs.length)).map fun x : Nat => (x : Int)).length = 2 ^ vs.length := by simp
  have hfx := o1.int.fix
  obtain ⟨b, hb⟩ : ∃ b, b = h1.length := ⟨_, rfl⟩
  rw [← hb] at hfx
  have lk1 := k1.1
  unfold treesX
  repeat (first | with_reducible refine wlen (OwnSl.int (by assumption)) ?_ | dsimp only)
  refine loopW (fun d st => ∃ (k : Nat) (q : PV) (h2 : PHeap), st = impl_treesOn.st0 p (.int .i64 (X : Int)) q q1 (.int .i64 (((List.range (2 ^ vs.length)).map fun x : Nat => (x : Int)).length : Int)) (.int .i64 (k : Int)) h2 ∧ k + d = 2 ^ vs.length ∧ OwnSl b h2 q (castN ((List.range k).filter fun S => treeW vs S X)) ∧ Keep b h1 h2) ?_ lf (2 ^ vs.length) _ (by omega)
    ⟨0, .nilsl, h1, rfl, by omega, OwnSl.nil _ _, Keep.refl _ _⟩
  rintro n1 d st ⟨k, q, h2, rfl, hkd, o2, k2⟩ next
  have kk2 : Keep h.length h h2 := k1.trans (k2.mono (by omega))
  rw [impl_treesOn.body0_eq]
  unfold impl_treesOn.body0
  simp only [env_C, env_buildSlice, env_load, env_bin, env_indexAddr, env_append]
  cases d with
  | zero =>
    obtain rfl : k = 2 ^ vs.length := by omega
    repeat (first | with_reducible refine wF ?_ | with_reducible refine wlssF (by omega) ?_ | with_reducible refine wresO (by assumption) ?_ | rw [kLoop_exit] | rw [impl_treesOn.after0_se0_0_1_5_10_11_12_13])
    exact W.ret ⟨o2.mono (by omega), kk2⟩
  | succ d =>
    have hk : k < 2 ^ vs.length := by omega
    have hkl : k < ((List.range (2 ^ vs.length)).map fun x : Nat => (x : Int)).length := by omega
    obtain ⟨a, eA, la⟩ := (hfx.get k2).at' hkl
    rw [show ((List.range (2 ^ vs.length)).map fun x : Nat => (x : Int))[k] = (k : Int) by simp] at la
    have htl : (castN ((List.range k).filter fun S => treeW vs S X)).length + 1 ≤ 2 ^ 36 := by
      rw [castN_length]
      have := List.length_filter_le (fun S => treeW vs S X) (List.range k)
      rw [List.length_range] at this
      omega
    have hsu : castN ((List.range (k + 1)).filter fun S => treeW vs S X) = castN ((List.range k).filter fun S => treeW vs S X) ++ (if treeW vs k X = true then [(k : Int)] else []) := by
      unfold castN
      rw [List.range_succ, List.filter_append, List.map_append]
      congr 1
      cases e : treeW vs k X <;> simp [List.filter_cons, e]
    have l2 : b ≤ h2.length := by have := k2.1; omega
    obtain ⟨h3, e3, k3⟩ := treeOn_W g lf hn (hp.keep kk2) hk hX hbig (ht.keep kk2) hlf n (by omega)
    have kk3 := kk2.trans (k3.mono kk2.1)
    have o3 := o2.keep k3
    have b3 : Keep b h1 h3 := k2.trans (k3.mono l2)
    have l3 : b ≤ h3.length := by have := b3.1; omega
    cases htk : treeW vs k X with
    | false =>
      rw [htk] at e3
      rw [htk, if_neg (by decide), List.append_nil] at hsu
      repeat (first | with_reducible refine wT ?_ | with_reducible refine wF ?_ | with_reducible refine wbd (by assumption) ?_ | with_reducible refine wadd1 (by omega) ?_ | with_reducible refine wlssT (by omega) ?_ | dsimp only)
      exact next _ _ (Nat.lt_succ_self d) ⟨k + 1, q, h3, rfl, by omega, by rw [hsu]; exact o3, b3⟩
    | true =>
      rw [htk] at e3
      rw [htk, if_pos rfl] at hsu
      repeat (first | with_reducible refine wT ?_ | with_reducible refine wbd (by assumption) ?_ | with_reducible refine wlssT (by omega) ?_ | dsimp only)
      refine wap o3 l3 htl fun q' h5 o5 k5 => ?_
      repeat (first | with_reducible refine wadd1 (by omega) ?_ | dsimp only)
      exact next _ _ (Nat.lt_succ_self d) ⟨k + 1, q', h5, rfl, by omega, by rw [hsu]; exact o5, b3.trans k5⟩

theorem treesOf_W {ws : List (Int × Int)} {p : PV} {h : PHeap} (hbig : Big g) (hlf : 1000 < lf) (N : Nat) (hN : 9 ≤ N) (nodes : Int) (ht : TabOk g h) (hp : WSl h p ws) (hl : ws.length ≤ 2 ^ 35) (hf : ws.length < lf) :
    ∃ q h', CL g lf N fn_impl_TreesOf [.int .i64 nodes, p] h = some (q, h') ∧ OwnSl h.length h' q (treesL nodes ws) ∧ Keep h.length h h' := by
  obtain ⟨n, rfl⟩ : ∃ n, N = n + 1 := ⟨N - 1, by omega⟩
  obtain ⟨h1, e1, k1⟩ := wiresOk_W g lf n (by omega) nodes hp hl hf
  have hp1 := hp.keep k1
  suffices this : W (CL g lf (n + 1) fn_impl_TreesOf [.int .i64 nodes, p] h) fun q h' => OwnSl h.length h' q (treesL nodes ws) ∧ Keep h.length h h' by
    obtain ⟨q, h', e, o, k⟩ := this
    exact ⟨q, h', e, o, k⟩
  rw [impl_TreesOf.call_eq]
  unfold impl_TreesOf.main
  simp only [env_C, env_un]
  unfold treesL
  cases hb : wiresB nodes ws with
  | false =>
    rw [hb] at e1
    rw [if_neg (by decide)]
    repeat (first | with_reducible refine wT ?_ | with_reducible refine wnF ?_ | with_reducible refine wrN ?_ | with_reducible refine wbd (by assumption) ?_ | dsimp only)
    exact W.ret ⟨OwnSl.nil _ _, k1⟩
  | true =>
    rw [hb] at e1
    obtain ⟨M, rfl, hws, hn, hl8, h28, hM2, hM5, hM32, hpw, hpM, hnl⟩ := net_of hb
    have hM0 := Nat.two_pow_pos M
    rw [if_pos rfl, Int.toNat_natCast]
    have e3 := allNodes_W g lf (M := M) (by omega) n (by omega) h1
    repeat (first | with_reducible refine wF ?_ | with_reducible refine wnT ?_ | with_reducible refine wbd (by assumption) ?_ | dsimp only)
    refine wcall (treesOn_W g lf hn (hws ▸ hp1) (X := 2 ^ M - 1) (by omega) hbig (ht.keep k1).t64 hlf n (by omega)) fun q h2 ⟨o2, k2⟩ => ?_
    dsimp only
    refine wbd o2.res ?_
    exact W.ret ⟨o2.mono k1.1, k1.trans (k2.mono k1.1)⟩
theorem treesOfOk (hbig : Big g) (hlf : 1000 < lf) : TreesOfOk g lf := fun N hN nodes _ _ _ ht hp hl hf => treesOf_W g lf hbig hlf N (by omega) nodes ht hp hl hf

/-! ### pairs -/
theorem pairAmong_W {L : List Nat} {q : PV} {h : PHeap} (hq : IntSl .i64 h q (castN L)) (hL : ∀ a ∈ L, a < 2 ^ 9) (hl : L.length ≤ 512) (hlf : 1000 < lf) (N : Nat) (hN : 1 ≤ N) : CL g lf N fn_impl_pairAmong [q] h = some (pairP (pairAll L), h) := by
  obtain ⟨n, rfl⟩ : ∃ n, N = n + 1 := ⟨N - 1, by omega⟩
  have hlen := hq.len'
  rw [castN_length] at hlen
  have : W (CL g lf (n + 1) fn_impl_pairAmong [q] h) fun v h' => v = pairP (pairAll L) ∧ h' = h := by
    rw [impl_pairAmong.call_eq]
    unfold impl_pairAmong.main
    simp only [env_lf, env_len]
    repeat (first | with_reducible refine wbd (by assumption) ?_)
    refine loopW (fun d st => ∃ (L1 L2 : List Nat) (i : Nat), st = impl_pairAmong.st0 q q (.int .i64 (L.length : Int)) (.int .i64 (i : Int)) h ∧ d = L2.length ∧ L = L1 ++ L2 ∧ i = L1.length ∧ pairAll L = L2.findSome? (pairBy L)) ?_ lf L.length _ (by omega) ⟨[], L, 0, rfl, rfl, rfl, rfl, rfl⟩
    rintro n1 d st ⟨L1, L2, i, rfl, rfl, hLs, hi, hfs⟩ next
    rw [impl_pairAmong.body0_eq]
    unfold impl_pairAmong.body0
    simp only [env_lf, env_load, env_bin, env_indexAddr, env_len]
    cases L2 with
    | nil =>
      have hiL : i = L.length := by rw [hLs, List.append_nil, hi]
      rw [hfs]
      repeat (first | with_reducible refine wF ?_ | with_reducible refine wrI ?_ | with_reducible refine wrB ?_ | with_reducible refine wlssF (by omega) ?_ | rw [kLoop_exit] | rw [impl_pairAmong.after0_se0_0_9_10_11_12])
      exact W.ret ⟨rfl, rfl⟩
    | cons a L2 =>
      have hiL : i < L.length := by rw [hLs, List.length_append, List.length_cons]; omega
      have hai : L[i] = a := by subst hi; simp [hLs]
      have ha9 : a < 2 ^ 9 := hL a (by rw [hLs]; simp)
      obtain ⟨x1, ex1, lx1⟩ := hq.at' (i := i) (by rw [castN_length]; exact hiL)
      rw [castN_get (by rw [castN_length]; exact hiL) hiL, hai] at lx1
      rw [List.findSome?_cons] at hfs
      repeat (first | with_reducible refine wT ?_ | with_reducible refine wbd (by assumption) ?_ | with_reducible refine wlssT (by omega) ?_)
      refine loopW (fun d2 st => ∃ (M1 M2 : List Nat) (j : Nat), st = impl_pairAmong.st1 q (.int .i64 (a : Int)) q (.int .i64 (L.length : Int)) (.int .i64 (i : Int)) q (.int .i64 (L.length : Int)) (.int .i64 (j : Int)) h ∧ d2 = M2.length ∧ L = M1 ++ M2 ∧ j = M1.length ∧ (L.find? fun b => decide (a &&& b = 0)) = M2.find? fun b => decide (a &&& b = 0)) ?_ lf L.length _ (by omega) ⟨[], L, 0, rfl, rfl, rfl, rfl, rfl⟩
      rintro n2 d2 st ⟨M1, M2, j, rfl, rfl, hMs, hj, hfi⟩ next2
      rw [impl_pairAmong.body1_eq]
      unfold impl_pairAmong.body1
      simp only [env_load, env_bin, env_indexAddr]
      cases M2 with
      | nil =>
        have hjL : j = L.length := by rw [hMs, List.append_nil, hj]
        have hpb : pairBy L a = none := by unfold pairBy; rw [hfi]; rfl
        rw [hpb] at hfs
        repeat (first | with_reducible refine wF ?_ | with_reducible refine wadd1 (by omega) ?_ | with_reducible refine wlssF (by omega) ?_ | rw [kLoop_exit] | rw [impl_pairAmong.after1_se2_0_6_9_10_11_15_16_17_18] | simp only [env_C, env_Y, env_g, env_lf, env_pick, env_alloc, env_box, env_build, env_buildSlice, env_load, env_store, env_ptr, env_bin, env_un, env_conv, env_make, env_slice, env_fieldAddr, env_field, env_indexAddr, env_index, env_extract, env_len, env_append, env_max, env_min, env_makeMap, env_lookup, env_update, env_clos, env_bstr])
        exact next _ _ (by rw [List.length_cons]; omega) ⟨L1 ++ [a], L2, i + 1, rfl, rfl, by rw [hLs, List.append_assoc]; rfl, by rw [List.length_append, hi]; rfl, hfs⟩
      | cons b M2 =>
        have hjL : j < L.length := by rw [hMs, List.length_append, List.length_cons]; omega
        have hbj : L[j] = b := by subst hj; simp [hMs]
        have hb9 : b < 2 ^ 9 := hL b (by rw [hMs]; simp)
        obtain ⟨x2, ex2, lx2⟩ := hq.at' (i := j) (by rw [castN_length]; exact hjL)
        rw [castN_get (by rw [castN_length]; exact hjL) hjL, hbj] at lx2
        rw [List.find?_cons] at hfi
        have a62 : a < 2 ^ 62 := by omega
        have b62 : b < 2 ^ 62 := by omega
        obtain ⟨c, hc⟩ : ∃ c, c = a &&& b := ⟨_, rfl⟩
        rw [← hc] at hfi
        by_cases hc0 : c = 0
        · have hc0' : (c : Int) = 0 := by omega
          rw [decide_eq_true hc0] at hfi
          have hpb : pairBy L a = some (a, b) := by unfold pairBy; rw [hfi]; rfl
          rw [hpb] at hfs
          rw [hfs]
          repeat (first | with_reducible refine wT ?_ | with_reducible refine wrI ?_ | with_reducible refine wrB ?_ | with_reducible refine wbd (by assumption) ?_ | (with_reducible refine wand a62 b62 ?_) | (rw [← hc]) | with_reducible refine wlssT (by omega) ?_ | with_reducible refine weqlT (by omega) ?_ | rw [kLoop_ret] | rw [impl_pairAmong.K0_ret] | rw [impl_pairAmong.K1_ret] | rw [impl_pairAmong.top_sr_2_3_4] | dsimp only)
          exact W.ret ⟨rfl, rfl⟩
        · have hc0' : ¬ (c : Int) = 0 := by omega
          rw [decide_eq_false hc0] at hfi
          repeat (first | with_reducible refine wT ?_ | with_reducible refine wF ?_ | with_reducible refine wbd (by assumption) ?_ | (with_reducible refine wand a62 b62 ?_) | (rw [← hc]) | with_reducible refine wadd1 (by omega) ?_ | with_reducible refine wlssT (by omega) ?_ | with_reducible refine weqlF (by omega) ?_)
          exact next2 _ _ (by rw [List.length_cons]; omega) ⟨M1 ++ [b], M2, j + 1, rfl, rfl, by rw [hMs, List.append_assoc]; rfl, by rw [List.length_append, hj]; rfl, hfi⟩
  obtain ⟨_, _, e, rfl, rfl⟩ := this
  exact e

theorem treePairOk (hbig : Big g) (hlf : 1000 < lf) : TreePairOk g lf := by
  intro N hN nodes ws p h ht hp hl hf
  obtain ⟨n, rfl⟩ : ∃ n, N = n + 1 := ⟨N - 1, by omega⟩
  obtain ⟨q, h1, e1, o1, k1⟩ := treesOf_W g lf hbig hlf n (by omega) nodes ht hp hl hf
  have key : CL g lf n fn_impl_pairAmong [q] h1 = some (pairP (tpairO nodes ws), h1) := by
    unfold treesL at o1
    unfold tpairO
    cases hb : wiresB nodes ws with
    | false =>
      rw [hb, if_neg (by decide)] at o1
      rw [if_neg (by decide)]
      exact pairAmong_W g lf (L := []) o1.int (fun a ha => (by cases ha)) (by decide) hlf n (by omega)
    | true =>
      rw [hb, if_pos rfl] at o1
      obtain ⟨M, rfl, hws, hn, hl8, h28, hM2, hM5, hM32, hpw, hpM, hnl⟩ := net_of hb
      rw [Int.toNat_natCast] at o1
      rw [if_pos rfl, Int.toNat_natCast, ← pairAll_W hn (X := 2 ^ M - 1) (by rw [pop_full hn]; exact hM2)]
      have := treesX_len (natW ws) (2 ^ M - 1)
      rw [hnl] at this
      refine pairAmong_W g lf (L := treesX (natW ws) (2 ^ M - 1)) o1.int (fun a ha => ?_) (by omega) hlf n (by omega)
      have := treesX_lt ha
      rw [hnl] at this
      omega
  have : W (CL g lf (n + 1) fn_impl_TreePair [.int .i64 nodes, p] h) fun v h' => v = pairP (tpairO nodes ws) ∧ Keep h.length h h' := by
    rw [impl_TreePair.call_eq]
    unfold impl_TreePair.main
    simp only [env_C, env_extract]
    cases ho : tpairO nodes ws with
    | none =>
      rw [ho] at key
      have key : CL g lf n fn_impl_pairAmong [q] h1 = some (.tup [.int .i64 0, .int .i64 0, .bool false], h1) := key
      repeat (first | with_reducible refine wrI ?_ | with_reducible refine wrB ?_ | with_reducible refine wx0 ?_ | with_reducible refine wx1 ?_ | with_reducible refine wx2 ?_ | with_reducible refine wbd (by assumption) ?_ | dsimp only)
      exact W.ret ⟨rfl, k1⟩
    | some ab =>
      obtain ⟨a, b⟩ := ab
      rw [ho] at key
      have key : CL g lf n fn_impl_pairAmong [q] h1 = some (.tup [.int .i64 (a : Int), .int .i64 (b : Int), .bool true], h1) := key
      repeat (first | with_reducible refine wrI ?_ | with_reducible refine wrB ?_ | with_reducible refine wx0 ?_ | with_reducible refine wx1 ?_ | with_reducible refine wx2 ?_ | with_reducible refine wbd (by assumption) ?_ | dsimp only)
      exact W.ret ⟨rfl, k1⟩
  obtain ⟨_, h', e, rfl, k⟩ := this
  exact ⟨h', e, k⟩

theorem pairOn_W {ws : List (Int × Int)} {p : PV} {h : PHeap} (hbig : Big g) (hlf : 1000 < lf) (N : Nat) (hN : 9 ≤ N) (nodes set : Int) (ht : TabOk g h) (hp : WSl h p ws) (hl : ws.length ≤ 2 ^ 35) (hf : ws.length < lf) :
    ∃ h', CL g lf N fn_impl_PairOn [.int .i64 nodes, p, .int .i64 set] h = some (.bool (pairOnL nodes ws set), h') ∧ Keep h.length h h' := by
  obtain ⟨n, rfl⟩ : ∃ n, N = n + 1 := ⟨N - 1, by omega⟩
  obtain ⟨h1, e1, k1⟩ := wiresOk_W g lf n (by omega) nodes hp hl hf
  have hp1 := hp.keep k1
  have : W (CL g lf (n + 1) fn_impl_PairOn [.int .i64 nodes, p, .int .i64 set] h) fun v h' => v = .bool (pairOnL nodes ws set) ∧ Keep h.length h h' := by
    rw [impl_PairOn.call_eq]
    unfold impl_PairOn.main
    simp only [env_C, env_pick, env_bin, env_un, env_extract]
    unfold pairOnL
    cases hb : wiresB nodes ws with
    | false =>
      rw [hb] at e1
      repeat (first | with_reducible refine wT ?_ | with_reducible refine wg0 rfl ?_ | with_reducible refine wpT ?_ | with_reducible refine wnF ?_ | with_reducible refine wsm ?_ | with_reducible refine wrB ?_ | with_reducible refine wbd (by assumption) ?_ | dsimp only)
      exact W.ret ⟨rfl, k1⟩
    | true =>
      rw [hb] at e1
      obtain ⟨M, rfl, hws, hn, hl8, h28, hM2, hM5, hM32, hpw, hpM, hnl⟩ := net_of hb
      have hM0 := Nat.two_pow_pos M
      have e3 := allNodes_W g lf (M := M) (by omega) n (by omega) h1
      rw [Bool.true_and, Int.toNat_natCast]
      by_cases c1 : set < 0
      · rw [decide_eq_false (fun hh => absurd hh.1 (by omega)), Bool.false_and]
        repeat (first | with_reducible refine wT ?_ | with_reducible refine wg1 rfl ?_ | with_reducible refine wg0 rfl ?_ | with_reducible refine wpT ?_ | with_reducible refine wpF ?_ | with_reducible refine wnT ?_ | with_reducible refine wpv ?_ | with_reducible refine wsm ?_ | with_reducible refine wrB ?_ | with_reducible refine wbd (by assumption) ?_ | with_reducible refine wlssT (by omega) ?_ | dsimp only)
        exact W.ret ⟨rfl, k1⟩
      · obtain ⟨X, rfl⟩ := Int.eq_ofNat_of_zero_le (by omega : 0 ≤ set)
        rw [Int.toNat_natCast]
        obtain ⟨Z, hZ⟩ : ∃ Z, Z = 2 ^ M - 1 := ⟨_, rfl⟩
        rw [← hZ] at e3
        by_cases c2 : (Z : Int) < (X : Int)
        · rw [decide_eq_false (fun hh => absurd hh.2 (by omega)), Bool.false_and]
          repeat (first | with_reducible refine wT ?_ | with_reducible refine wg1 rfl ?_ | with_reducible refine wg0 rfl ?_ | with_reducible refine wpT ?_ | with_reducible refine wpF ?_ | with_reducible refine wnT ?_ | with_reducible refine wpv ?_ | with_reducible refine wsm ?_ | with_reducible refine wrB ?_ | with_reducible refine wbd (by assumption) ?_ | with_reducible refine wlssF (by omega) ?_ | with_reducible refine wgtrT (by omega) ?_ | dsimp only)
          exact W.ret ⟨rfl, k1⟩
        · have hX5 : X < 2 ^ 5 := by omega
          have hX62 : X < 2 ^ 62 := by omega
          rw [decide_eq_true (by omega : 0 ≤ (X : Int) ∧ (X : Int) < ((2 ^ M : Nat) : Int)), Bool.true_and]
          have h34 := and_three X
          obtain ⟨Y, hY⟩ : ∃ Y, Y = X &&& 3 := ⟨_, rfl⟩
          rw [← h34, ← hY]
          have hwand : ∀ {f : PV → Res} {Q : PV → PHeap → Prop}, W (f (.int .i64 (Y : Int))) Q → W ((binP Tryd.prog .and 3 (.int .i64 (X : Int)) (.int .i64 3)).bind f) Q := fun hf => wand (y := 3) hX62 (by decide) (hY ▸ hf)
          by_cases c3 : Y = 3
          · have c3' : (Y : Int) = 3 := by omega
            rw [decide_eq_true c3, Bool.true_and]
            have hbits : X.testBit 0 = true ∧ X.testBit 1 = true := by
              have h4 : X % 4 = 3 := by omega
              constructor
              · rw [Nat.testBit_zero]; exact decide_eq_true (by omega)
              · rw [← bit_iff, Nat.shiftRight_eq_div_pow]; omega
            repeat (first | with_reducible refine wF ?_ | with_reducible refine wg1 rfl ?_ | with_reducible refine wpF ?_ | with_reducible refine wnT ?_ | with_reducible refine wpv ?_ | with_reducible refine wsm ?_ | with_reducible refine wbd (by assumption) ?_ | (with_reducible refine hwand ?_) | with_reducible refine wlssF (by omega) ?_ | with_reducible refine wgtrF (by omega) ?_ | with_reducible refine wneqF (by omega) ?_ | dsimp only)
            refine wcall (treesOn_W g lf hn (hws ▸ hp1) hX5 hbig (ht.keep k1).t64 hlf n (by omega)) fun q h2 ⟨o2, k2⟩ => ?_
            have hlx := treesX_len (natW ws) X
            rw [hnl] at hlx
            have e5 := pairAmong_W g lf (L := treesX (natW ws) X) o2.int (fun a ha => (by have := treesX_lt ha; rw [hnl] at this; omega)) (by omega) hlf n (by omega)
            rw [pairAll_W hn (pop_two hbits.1 hbits.2)] at e5
            have kk := k1.trans (k2.mono k1.1)
            cases ho : pairW (natW ws) X with
            | none =>
              rw [ho] at e5
              have e5 : CL g lf n fn_impl_pairAmong [q] h2 = some (.tup [.int .i64 0, .int .i64 0, .bool false], h2) := e5
              repeat (first | with_reducible refine wrB ?_ | with_reducible refine wx0 ?_ | with_reducible refine wx1 ?_ | with_reducible refine wx2 ?_ | with_reducible refine wbd (by assumption) ?_ | dsimp only)
              exact W.ret ⟨rfl, kk⟩
            | some ab =>
              obtain ⟨a, b⟩ := ab
              rw [ho] at e5
              have e5 : CL g lf n fn_impl_pairAmong [q] h2 = some (.tup [.int .i64 (a : Int), .int .i64 (b : Int), .bool true], h2) := e5
              repeat (first | with_reducible refine wrB ?_ | with_reducible refine wx0 ?_ | with_reducible refine wx1 ?_ | with_reducible refine wx2 ?_ | with_reducible refine wbd (by assumption) ?_ | dsimp only)
              exact W.ret ⟨rfl, kk⟩
          · have c3' : ¬ (Y : Int) = 3 := by omega
            rw [decide_eq_false c3, Bool.false_and]
            repeat (first | with_reducible refine wT ?_ | with_reducible refine wg1 rfl ?_ | with_reducible refine wpF ?_ | with_reducible refine wnT ?_ | with_reducible refine wpv ?_ | with_reducible refine wsm ?_ | with_reducible refine wrB ?_ | with_reducible refine wbd (by assumption) ?_ | (with_reducible refine hwand ?_) | with_reducible refine wlssF (by omega) ?_ | with_reducible refine wgtrF (by omega) ?_ | with_reducible refine wneqT (by omega) ?_ | dsimp only)
            exact W.ret ⟨rfl, k1⟩
  obtain ⟨_, h', e, rfl, k⟩ := this
  exact ⟨h', e, k⟩
theorem pairOnOk (hbig : Big g) (hlf : 1000 < lf) : PairOnOk g lf := fun N hN nodes set _ _ _ ht hp hl hf => pairOn_W g lf hbig hlf N (by omega) nodes set ht hp hl hf

theorem somewhere_is {M : Nat} {ws : List (Int × Int)} (hb : wiresB (M : Int) ws = true) (hM : 2 ≤ M) : somewhereL (M : Int) ws = (match (List.range (2 ^ M)).find? (fun S : Nat => pairOnL (M : Int) ws (S : Int)) with | some S => ((S : Nat) : Int) | none => -1) := by
  unfold somewhereL
  rw [if_pos hb, Int.toNat_natCast]
  have hM4 : 2 ^ M = 4 * 2 ^ (M - 2) := by rw [show (4 : Nat) = 2 ^ 2 from rfl, ← Nat.pow_add, show 2 + (M - 2) = M by omega]
  have hcon : (List.range (2 ^ M)).find? (fun S : Nat => pairOnL (M : Int) ws (S : Int)) = (List.range (2 ^ M)).find? (fun S => decide (S % 4 = 3) && (pairW (natW ws) S).isSome) := by
    have : ∀ l : List Nat, (∀ S ∈ l, S < 2 ^ M) → l.find? (fun S : Nat => pairOnL (M : Int) ws (S : Int)) = l.find? (fun S => decide (S % 4 = 3) && (pairW (natW ws) S).isSome) := by
      intro l
      induction l with
      | nil => intro _; rfl
      | cons S l ih =>
        intro hl
        have hS := hl S (by simp)
        have hon : pairOnL (M : Int) ws (S : Int) = (decide (S % 4 = 3) && (pairW (natW ws) S).isSome) := by
          unfold pairOnL
          rw [hb, Int.toNat_natCast, Int.toNat_natCast, decide_eq_true (by omega : 0 ≤ (S : Int) ∧ (S : Int) < ((2 ^ M : Nat) : Int))]
          rfl
        rw [List.find?_cons, List.find?_cons, hon, ih fun x hx => hl x (by simp [hx])]
    exact this _ fun S hS => List.mem_range.1 hS
  rw [hcon, hM4, find_four]
  show _ = (match ((List.range (2 ^ (M - 2))).find? (someP (natW ws))).map fun i => 4 * i + 3 with | some S => ((S : Nat) : Int) | none => -1)
  cases (List.range (2 ^ (M - 2))).find? (someP (natW ws)) <;> rfl

theorem somewhereOk (hbig : Big g) (hlf : 1000 < lf) : SomewhereOk g lf := by
  intro N hN nodes ws p h ht hp hl hf
  obtain ⟨n, rfl⟩ : ∃ n, N = n + 1 := ⟨N - 1, by omega⟩
  obtain ⟨h1, e1, k1⟩ := wiresOk_W g lf n (by omega) nodes hp hl hf
  have : W (CL g lf (n + 1) fn_impl_PairSomewhere [.int .i64 nodes, p] h) fun v h' => v = .int .i64 (somewhereL nodes ws) ∧ Keep h.length h h' := by
    rw [impl_PairSomewhere.call_eq]
    unfold impl_PairSomewhere.main
    simp only [env_C, env_lf, env_un, env_len]
    cases hb : wiresB nodes ws with
    | false =>
      rw [hb] at e1
      have : somewhereL nodes ws = -1 := by unfold somewhereL; rw [hb]; rfl
      rw [this]
      repeat (first | with_reducible refine wT ?_ | with_reducible refine wnF ?_ | with_reducible refine wrI ?_ | with_reducible refine wbd (by assumption) ?_ | dsimp only)
      exact W.ret ⟨rfl, k1⟩
    | true =>
      rw [hb] at e1
      obtain ⟨M, rfl, hws, hn, hl8, h28, hM2, hM5, hM32, hpw, hpM, hnl⟩ := net_of hb
      have hM0 := Nat.two_pow_pos M
      have e3 := allNodes_W g lf (M := M) (by omega) n (by omega) h1
      have hpo := partsOf_W g lf (F := 2 ^ M - 1) (by omega) n (by omega) hlf h1
      rw [allParts (by omega : M ≤ 8)] at hpo
      rw [somewhere_is hb hM2]
      obtain ⟨T, hT⟩ : ∃ T, T = 2 ^ M := ⟨_, rfl⟩
      rw [← hT] at hpo hM0 hM32 e3 ⊢
      obtain ⟨V, hV⟩ : ∃ V : Int, V = (match (List.range T).find? (fun S : Nat => pairOnL (M : Int) ws (S : Int)) with | some S => ((S : Nat) : Int) | none => -1) := ⟨_, rfl⟩
      rw [← hV]
      rw [List.range_eq_range'] at hV
      repeat (first | with_reducible refine wF ?_ | with_reducible refine wnT ?_ | with_reducible refine wbd (by assumption) ?_ | dsimp only)
      refine wcall hpo fun q h2 ⟨o2, k2⟩ => ?_
      have hll : ((List.range T).map fun x : Nat => (x : Int)).length = T := by simp
      have kk2 := k1.trans (k2.mono k1.1)
      repeat (first | with_reducible refine wlen (OwnSl.int (by assumption)) ?_ | dsimp only)
      refine loopW (fun d st => ∃ (k : Nat) (h3 : PHeap), st = impl_PairSomewhere.st0 (.int .i64 (M : Int)) p q (.int .i64 (((List.range T).map fun x : Nat => (x : Int)).length : Int)) (.int .i64 (k : Int)) h3 ∧ k + d = T ∧ V = (match (List.range' k d).find? (fun S : Nat => pairOnL (M : Int) ws (S : Int)) with | some S => ((S : Nat) : Int) | none => -1) ∧ Keep h2.length h2 h3) ?_ lf T _ (by omega) ⟨0, h2, rfl, by omega, hV, Keep.refl _ _⟩
      rintro n1 d st ⟨k, h3, rfl, hkd, hVk, k3⟩ next
      have kk3 := kk2.trans (k3.mono kk2.1)
      rw [impl_PairSomewhere.body0_eq]
      unfold impl_PairSomewhere.body0
      simp only [env_C, env_load, env_bin, env_indexAddr]
      cases d with
      | zero =>
        obtain rfl : k = T := by omega
        have hVk : V = -1 := hVk
        rw [hVk]
        repeat (first | with_reducible refine wF ?_ | with_reducible refine wrI ?_ | with_reducible refine wlssF (by omega) ?_ | rw [kLoop_exit] | rw [impl_PairSomewhere.after0_se0_0_1_13_14_15_16])
        exact W.ret ⟨rfl, kk3⟩
      | succ d =>
        have hk : k < T := by omega
        have hkl : k < ((List.range T).map fun x : Nat => (x : Int)).length := by omega
        obtain ⟨a, eA, la⟩ := (o2.keep k3).int.at' hkl
        rw [show ((List.range T).map fun x : Nat => (x : Int))[k] = (k : Int) by simp] at la
        obtain ⟨h4, e4, k4⟩ := pairOn_W g lf hbig hlf n (by omega) (M : Int) (k : Int) (ht.keep kk3) (hp.keep kk3) hl hf
        have kk4 := kk3.trans (k4.mono kk3.1)
        rw [List.range'_succ, List.find?_cons] at hVk
        cases ho : pairOnL (M : Int) ws (k : Int) with
        | true =>
          rw [ho] at e4 hVk
          have hVk : V = (k : Int) := hVk
          rw [hVk]
          repeat (first | with_reducible refine wT ?_ | with_reducible refine wrI ?_ | with_reducible refine wbd (by assumption) ?_ | with_reducible refine wlssT (by omega) ?_ | rw [kLoop_ret] | rw [impl_PairSomewhere.K0_ret] | rw [impl_PairSomewhere.top_sr_4] | dsimp only)
          exact W.ret ⟨rfl, kk4⟩
        | false =>
          rw [ho] at e4 hVk
          repeat (first | with_reducible refine wT ?_ | with_reducible refine wF ?_ | with_reducible refine wbd (by assumption) ?_ | with_reducible refine wadd1 (by omega) ?_ | with_reducible refine wlssT (by omega) ?_ | dsimp only)
          exact next _ _ (Nat.lt_succ_self d) ⟨k + 1, h4, rfl, by omega, hVk, k3.trans (k4.mono k3.1)⟩
  obtain ⟨_, h', e, rfl, k⟩ := this
  exact ⟨h', e, k⟩

/-! ### a wire given back, and how many trees have it -/
end Go.Proofs.YtbmmcldbllhhhaaDoor

