/- Texts of this seat, in their order, put together by program. -/
import Derived.Test.YtbmmcldbllhhhabDoorJ9
set_option linter.unusedSimpArgs false
set_option linter.unusedVariables false
set_option linter.unusedSectionVars false
/- What the program's functions of chapter 10 compute. -/
set_option maxRecDepth 20000
namespace Go.Proofs.YtbmmcldbllhhhabDoor
open Go Go.Ip G

/-! ### what holds of trees and of pairs of them -/
theorem treeW_short {nodes : Nat} {vs : List (Nat × Nat)} (hn : NetN nodes vs) {S X : Nat} (hS : S < 2 ^ vs.length) (hX : X < 2 ^ 5) : treeW vs S X = (decide (pop S + 1 = pop X) && decide (reachW vs S 0 = X)) := by
  rw [Bool.eq_iff_iff, tree_iff hn hS hX, Bool.and_eq_true, decide_eq_true_iff, decide_eq_true_iff]
  have hr := fun j => reach_bit hn (set := S) (u := 0) (by have := hn.1; omega) j
  constructor
  · intro h
    refine ⟨h.2.2.1, ?_⟩
    apply Nat.eq_of_testBit_eq
    intro j
    rw [Bool.eq_iff_iff, hr, h.2.2.2]
  · rintro ⟨h1, h2⟩
    refine ⟨hS, hX, h1, fun v => ?_⟩
    rw [← h2]; exact hr v

variable (g : Nat → PV) (lf n : Nat)

theorem bind2 : ∀ (a : Option PV) (f : PV → Option PV) (k : PV → Res) (r : PV), a.bind f = some r → (a.bind fun v => (f v).bind k) = k r := by
  intro a f k r e
  cases a with
  | none => cases e
  | some x => simp only [Option.bind_some] at e ⊢; rw [e]; rfl
theorem allNodes_W {M : Nat} (hM : M ≤ 8) (N : Nat) (hN : 1 ≤ N) (h : PHeap) : CL g lf N fn_impl_allNodes [.int .i64 (M : Int)] h = some (.int .i64 ((2 ^ M - 1 : Nat) : Int), h) := by
  obtain ⟨n, rfl⟩ : ∃ n, N = n + 1 := ⟨N - 1, by omega⟩
  have hw := whole_at hM
  rw [impl_allNodes.call_eq]
  unfold impl_allNodes.main
  simp only [env_bin]
  rw [bind2 _ _ _ _ hw]
  rfl

theorem netSetOk_W {ws : List (Int × Int)} {p : PV} {h : PHeap} (hp : WSl h p ws) (h8 : ws.length ≤ 8) (set : Int) (N : Nat) (hN : 2 ≤ N) : CL g lf N fn_impl_wireSetOk [p, .int .i64 set] h = some (.bool (decide (0 ≤ set ∧ set < ((2 ^ ws.length : Nat) : Int))), h) := by
  obtain ⟨n, rfl⟩ : ∃ n, N = n + 1 := ⟨N - 1, by omega⟩
  have ea := allWires_W g lf hp h8 n (by omega)
  have h28 : 2 ^ ws.length ≤ 2 ^ 8 := Nat.pow_le_pow_right (by decide) h8
  have h20 := Nat.two_pow_pos ws.length
  have : W (CL g lf (n + 1) fn_impl_wireSetOk [p, .int .i64 set] h) fun v h' => v = .bool (decide (0 ≤ set ∧ set < ((2 ^ ws.length : Nat) : Int))) ∧ h' = h := by
    obtain ⟨Z, hZ⟩ : ∃ Z, Z = 2 ^ ws.length := ⟨_, rfl⟩
    rw [← hZ] at ea h28 h20 ⊢
    rw [impl_wireSetOk.call_eq]
    unfold impl_wireSetOk.main
    simp only [env_C, env_pick, env_bin]
    by_cases c1 : 0 ≤ set
    · by_cases c2 : set < (Z : Int)
      · repeat (first | with_reducible refine wg1 rfl ?_ | with_reducible refine wpT ?_ | with_reducible refine wpv ?_ | with_reducible refine wsm ?_ | with_reducible refine wrB ?_ | with_reducible refine wbd (by assumption) ?_ | with_reducible refine wleqT (by omega) ?_ | with_reducible refine wgeqT (by omega) ?_ | dsimp only)
        exact W.ret ⟨by rw [decide_eq_true ⟨c1, c2⟩], rfl⟩
      · repeat (first | with_reducible refine wg1 rfl ?_ | with_reducible refine wpT ?_ | with_reducible refine wpv ?_ | with_reducible refine wsm ?_ | with_reducible refine wrB ?_ | with_reducible refine wbd (by assumption) ?_ | with_reducible refine wleqF (by omega) ?_ | with_reducible refine wgeqT (by omega) ?_ | dsimp only)
        exact W.ret ⟨by rw [decide_eq_false (fun hh => c2 hh.2)], rfl⟩
    · repeat (first | with_reducible refine wg0 rfl ?_ | with_reducible refine wpF ?_ | with_reducible refine wsm ?_ | with_reducible refine wrB ?_ | with_reducible refine wgeqF (by omega) ?_ | dsimp only)
      exact W.ret ⟨by rw [decide_eq_false (fun hh => c1 hh.1)], rfl⟩
  obtain ⟨_, _, e, rfl, rfl⟩ := this
  exact e

theorem wireOk_W {ws : List (Int × Int)} {p : PV} {h : PHeap} (hp : WSl h p ws) (h8 : ws.length ≤ 8) (wire : Int) (N : Nat) (hN : 1 ≤ N) : CL g lf N fn_impl_wireOk [p, .int .i64 wire] h = some (.bool (decide (0 ≤ wire ∧ wire < (ws.length : Int))), h) := by
  obtain ⟨n, rfl⟩ : ∃ n, N = n + 1 := ⟨N - 1, by omega⟩
  have hlen := hp.len
  have : W (CL g lf (n + 1) fn_impl_wireOk [p, .int .i64 wire] h) fun v h' => v = .bool (decide (0 ≤ wire ∧ wire < (ws.length : Int))) ∧ h' = h := by
    obtain ⟨Z, hZ⟩ : ∃ Z, Z = ws.length := ⟨_, rfl⟩
    rw [← hZ] at hlen h8 ⊢
    rw [impl_wireOk.call_eq]
    unfold impl_wireOk.main
    simp only [env_pick, env_bin, env_len]
    by_cases c1 : 0 ≤ wire
    · by_cases c2 : wire < (Z : Int)
      · repeat (first | with_reducible refine wg1 rfl ?_ | with_reducible refine wpT ?_ | with_reducible refine wpv ?_ | with_reducible refine wsm ?_ | with_reducible refine wrB ?_ | with_reducible refine wbd (by assumption) ?_ | with_reducible refine wlssT (by omega) ?_ | with_reducible refine wgeqT (by omega) ?_ | dsimp only)
        exact W.ret ⟨by rw [decide_eq_true ⟨c1, c2⟩], rfl⟩
      · repeat (first | with_reducible refine wg1 rfl ?_ | with_reducible refine wpT ?_ | with_reducible refine wpv ?_ | with_reducible refine wsm ?_ | with_reducible refine wrB ?_ | with_reducible refine wbd (by assumption) ?_ | with_reducible refine wlssF (by omega) ?_ | with_reducible refine wgeqT (by omega) ?_ | dsimp only)
        exact W.ret ⟨by rw [decide_eq_false (fun hh => c2 hh.2)], rfl⟩
    · repeat (first | with_reducible refine wg0 rfl ?_ | with_reducible refine wpF ?_ | with_reducible refine wsm ?_ | with_reducible refine wrB ?_ | with_reducible refine wgeqF (by omega) ?_ | dsimp only)
      exact W.ret ⟨by rw [decide_eq_false (fun hh => c1 hh.1)], rfl⟩
  obtain ⟨_, _, e, rfl, rfl⟩ := this
  exact e

theorem hasWire_W {S k : Nat} (hS : S < 2 ^ 9) (hk : k ≤ 60) (N : Nat) (hN : 1 ≤ N) (h : PHeap) : CL g lf N fn_impl_hasWire [.int .i64 (S : Int), .int .i64 (k : Int)] h = some (.bool (S.testBit k), h) := by
  obtain ⟨n, rfl⟩ : ∃ n, N = n + 1 := ⟨N - 1, by omega⟩
  have hsh : S >>> k < 2 ^ 62 := by have : S >>> k ≤ S := by { rw [Nat.shiftRight_eq_div_pow]; exact Nat.div_le_self _ _ }; omega
  have hb : S >>> k &&& 1 = 1 ↔ S.testBit k = true := by rw [Nat.and_one_is_mod]; exact bit_iff S k
  have : W (CL g lf (n + 1) fn_impl_hasWire [.int .i64 (S : Int), .int .i64 (k : Int)] h) fun v h' => v = .bool (S.testBit k) ∧ h' = h := by
    rw [impl_hasWire.call_eq]
    unfold impl_hasWire.main
    simp only [env_bin]
    repeat (first | with_reducible refine wshr (by omega) ?_)
    refine wbd (f_and (a := S >>> k) (b := 1) hsh (by decide)) ?_
    refine weql (fun e => ?_) (fun e => ?_)
    · have e' : S >>> k &&& 1 = 1 := by simpa using Int.ofNat_inj.1 e
      exact W.ret ⟨by rw [hb.1 e'], rfl⟩
    · have e' : ¬ S >>> k &&& 1 = 1 := fun e2 => e (by rw [e2]; rfl)
      refine W.ret ⟨?_, rfl⟩
      cases hs : S.testBit k with
      | false => rfl
      | true => exact absurd (hb.2 hs) e'
  obtain ⟨_, _, e, rfl, rfl⟩ := this
  exact e

/-! ### a tree -/
theorem treeOn_W {nodes : Nat} {vs : List (Nat × Nat)} (hn : NetN nodes vs) {p : PV} {h : PHeap} (hp : WSl h p (castW vs)) {S X : Nat} (hS : S < 2 ^ vs.length) (hX : X < 2 ^ 5) (hbig : Big g) (ht : Tab64 g h) (hlf : 1000 < lf) (N : Nat) (hN : 6 ≤ N) :
    ∃ h', CL g lf N fn_impl_treeOn [p, .int .i64 (X : Int), .int .i64 (S : Int)] h = some (.bool (treeW vs S X), h') ∧ Keep h.length h h' := by
  obtain ⟨n, rfl⟩ : ∃ n, N = n + 1 := ⟨N - 1, by omega⟩
  have hS9 := pow58 hS hn.2.2.1
  have e1 := countIn_W g lf n (by omega) h (x := S) hS9
  have e2 := countIn_W g lf n (by omega) h (x := X) (by omega)
  have pA := pop_le (n := 9) (by decide) hS9
  have pB := pop_le (n := 9) (x := X) (by decide) (by omega)
  rw [size_pop] at e1 e2
  have : W (CL g lf (n + 1) fn_impl_treeOn [p, .int .i64 (X : Int), .int .i64 (S : Int)] h) fun v h' => v = .bool (treeW vs S X) ∧ Keep h.length h h' := by
    rw [treeW_short hn hS hX]
    obtain ⟨A, hA⟩ : ∃ A, A = pop S := ⟨_, rfl⟩
    obtain ⟨B, hB⟩ : ∃ B, B = pop X := ⟨_, rfl⟩
    rw [← hA] at e1 pA ⊢
    rw [← hB] at e2 pB ⊢
    have hsb : -4611686018427387904 ≤ (B : Int) - 1 ∧ (B : Int) - 1 ≤ 4611686018427387904 := by omega
    rw [impl_treeOn.call_eq]
    unfold impl_treeOn.main
    simp only [env_C, env_pick, env_bin]
    by_cases hc : A + 1 = B
    · have hc' : (A : Int) = (B : Int) - 1 := by omega
      rw [decide_eq_true hc, Bool.true_and]
      repeat (first | with_reducible refine wg1 rfl ?_ | with_reducible refine wsm ?_ | with_reducible refine wbd (by assumption) ?_ | (with_reducible refine wsub hsb ?_) | with_reducible refine weqlT (by omega) ?_ | dsimp only)
      refine wcall (reached_W g lf hn hp hS hbig ht hlf n (by omega)) fun v h1 ⟨hv, k1⟩ => ?_
      subst hv
      obtain ⟨Y, hY⟩ : ∃ Y, Y = reachW vs S 0 := ⟨_, rfl⟩
      rw [← hY]
      by_cases hy : Y = X
      · have hy' : (Y : Int) = (X : Int) := by omega
        rw [decide_eq_true hy]
        repeat (first | with_reducible refine wg1 rfl ?_ | with_reducible refine wpT ?_ | with_reducible refine wpv ?_ | with_reducible refine wsm ?_ | with_reducible refine wrB ?_ | with_reducible refine weqlT (by omega) ?_ | dsimp only)
        exact W.ret ⟨rfl, k1⟩
      · have hy' : ¬ (Y : Int) = (X : Int) := by omega
        rw [decide_eq_false hy]
        repeat (first | with_reducible refine wg1 rfl ?_ | with_reducible refine wpT ?_ | with_reducible refine wpv ?_ | with_reducible refine wsm ?_ | with_reducible refine wrB ?_ | with_reducible refine weqlF (by omega) ?_ | dsimp only)
        exact W.ret ⟨rfl, k1⟩
    · have hc' : ¬ (A : Int) = (B : Int) - 1 := by omega
      rw [decide_eq_false hc, Bool.false_and]
      repeat (first | with_reducible refine wg0 rfl ?_ | with_reducible refine wpF ?_ | with_reducible refine wsm ?_ | with_reducible refine wrB ?_ | with_reducible refine wbd (by assumption) ?_ | (with_reducible refine wsub hsb ?_) | with_reducible refine weqlF (by omega) ?_ | dsimp only)
      exact W.ret ⟨rfl, Keep.refl _ _⟩
  obtain ⟨_, h', e, rfl, k⟩ := this
  exact ⟨h', e, k⟩

theorem treeOk_W {ws : List (Int × Int)} {p : PV} {h : PHeap} (hbig : Big g) (hlf : 1000 < lf) (N : Nat) (hN : 8 ≤ N) (nodes set : Int) (ht : TabOk g h) (hp : WSl h p ws) (hl : ws.length ≤ 2 ^ 35) (hf : ws.length < lf) :
    ∃ h', CL g lf N fn_impl_TreeOk [.int .i64 nodes, p, .int .i64 set] h = some (.bool (treeL nodes ws set), h') ∧ Keep h.length h h' := by
  obtain ⟨n, rfl⟩ : ∃ n, N = n + 1 := ⟨N - 1, by omega⟩
  obtain ⟨h1, e1, k1⟩ := wiresOk_W g lf n (by omega) nodes hp hl hf
  have hp1 := hp.keep k1
  have : W (CL g lf (n + 1) fn_impl_TreeOk [.int .i64 nodes, p, .int .i64 set] h) fun v h' => v = .bool (treeL nodes ws set) ∧ Keep h.length h h' := by
    rw [impl_TreeOk.call_eq]
    unfold impl_TreeOk.main
    simp only [env_C, env_pick]
    unfold treeL
    cases hb : wiresB nodes ws with
    | false =>
      rw [hb] at e1
      repeat (first | with_reducible refine wg0 rfl ?_ | with_reducible refine wpF ?_ | with_reducible refine wsm ?_ | with_reducible refine wrB ?_ | with_reducible refine wbd (by assumption) ?_ | dsimp only)
      exact W.ret ⟨rfl, k1⟩
    | true =>
      rw [hb] at e1
      obtain ⟨M, rfl, hws, hn, hl8, h28, hM2, hM5, hM32, hpw, hpM, hnl⟩ := net_of hb
      have hM0 := Nat.two_pow_pos M
      have e2 := netSetOk_W g lf hp1 hl8 set n (by omega)
      rw [Bool.true_and, Int.toNat_natCast]
      cases hd : decide (0 ≤ set ∧ set < ((2 ^ ws.length : Nat) : Int)) with
      | false =>
        rw [hd] at e2
        repeat (first | with_reducible refine wg1 rfl ?_ | with_reducible refine wg0 rfl ?_ | with_reducible refine wpT ?_ | with_reducible refine wpF ?_ | with_reducible refine wsm ?_ | with_reducible refine wrB ?_ | with_reducible refine wbd (by assumption) ?_ | dsimp only)
        exact W.ret ⟨rfl, k1⟩
      | true =>
        rw [hd] at e2
        have hdt := of_decide_eq_true hd
        obtain ⟨S, rfl⟩ := Int.eq_ofNat_of_zero_le hdt.1
        rw [Bool.true_and, Int.toNat_natCast]
        have e3 := allNodes_W g lf (M := M) (by omega) n (by omega) h1
        obtain ⟨h2, e4, k2⟩ := treeOn_W g lf hn (hws ▸ hp1) (S := S) (X := 2 ^ M - 1) (by rw [hnl]; omega) (by omega) hbig (ht.keep k1).t64 hlf n (by omega)
        repeat (first | with_reducible refine wg1 rfl ?_ | with_reducible refine wpT ?_ | with_reducible refine wsm ?_ | with_reducible refine wrB ?_ | with_reducible refine wbd (by assumption) ?_ | dsimp only)
        exact W.ret ⟨rfl, k1.trans (k2.mono k1.1)⟩
  obtain ⟨_, h', e, rfl, k⟩ := this
  exact ⟨h', e, k⟩
theorem treeOkOk (hbig : Big g) (hlf : 1000 < lf) : TreeOkOk g lf := fun N hN nodes set _ _ _ ht hp hl hf => treeOk_W g lf hbig hlf N (by omega) nodes set ht hp hl hf

/-! ### all trees -/
/-! ### pairs -/
/-! ### a wire given back, and how many trees have it -/
theorem replyOk (hbig : Big g) (hlf : 1000 < lf) : ReplyOk g lf := by
  intro N hN nodes first second wire ws p h ht hp hl hf
  obtain ⟨n, rfl⟩ : ∃ n, N = n + 1 := ⟨N - 1, by omega⟩
  obtain ⟨h1, e1, k1⟩ := treeOk_W g lf hbig hlf n (by omega) nodes first ht hp hl hf
  have : W (CL g lf (n + 1) fn_impl_TreeReply [.int .i64 nodes, p, .int .i64 first, .int .i64 second, .int .i64 wire] h) fun v h' => v = .int .i64 (replyL nodes ws first second wire) ∧ Keep h.length h h' := by
    rw [impl_TreeReply.call_eq]
    unfold impl_TreeReply.main
    simp only [env_C, env_lf, env_pick, env_bin, env_un, env_len]
    unfold replyL
    cases ht1 : treeL nodes ws first with
    | false =>
      rw [ht1] at e1
      rw [Bool.false_and, if_neg (by decide)]
      repeat (first | with_reducible refine wT ?_ | with_reducible refine wg0 rfl ?_ | with_reducible refine wpT ?_ | with_reducible refine wnF ?_ | with_reducible refine wsm ?_ | with_reducible refine wrI ?_ | with_reducible refine wbd (by assumption) ?_ | dsimp only)
      exact W.ret ⟨rfl, k1⟩
    | true =>
      rw [ht1] at e1
      rw [Bool.true_and]
      obtain ⟨h2, e2, k2⟩ := treeOk_W g lf hbig hlf n (by omega) nodes second (ht.keep k1) (hp.keep k1) hl hf
      have K2 := k1.trans (k2.mono k1.1)
      cases ht2 : treeL nodes ws second with
      | false =>
        rw [ht2] at e2
        rw [Bool.false_and, if_neg (by decide)]
        repeat (first | with_reducible refine wT ?_ | with_reducible refine wg1 rfl ?_ | with_reducible refine wg0 rfl ?_ | with_reducible refine wpT ?_ | with_reducible refine wpF ?_ | with_reducible refine wnT ?_ | with_reducible refine wnF ?_ | with_reducible refine wpv ?_ | with_reducible refine wsm ?_ | with_reducible refine wrI ?_ | with_reducible refine wbd (by assumption) ?_ | dsimp only)
        exact W.ret ⟨rfl, K2⟩
      | true =>
        rw [ht2] at e2
        rw [Bool.true_and]
        obtain ⟨hb, A, rfl, hA, htA⟩ := treeL_net ht1
        obtain ⟨_, B, rfl, hB, htB⟩ := treeL_net ht2
        obtain ⟨M, rfl, hws, hn, hl8, h28, hM2, hM5, hM32, hpw, hpM, hnl⟩ := net_of hb
        have hp2 := hp.keep K2
        have hlen := hp2.len
        have hM0 := Nat.two_pow_pos M
        have hin := wireOk_W g lf hp2 hl8 wire n (by omega)
        rw [Int.toNat_natCast, Int.toNat_natCast, Int.toNat_natCast]
        cases hw : decide (0 ≤ wire ∧ wire < (ws.length : Int)) with
        | false =>
          rw [hw] at hin
          rw [Bool.false_and, if_neg (by decide)]
          repeat (first | with_reducible refine wT ?_ | with_reducible refine wg1 rfl ?_ | with_reducible refine wg0 rfl ?_ | with_reducible refine wpT ?_ | with_reducible refine wpF ?_ | with_reducible refine wnT ?_ | with_reducible refine wnF ?_ | with_reducible refine wpv ?_ | with_reducible refine wsm ?_ | with_reducible refine wrI ?_ | with_reducible refine wbd (by assumption) ?_ | dsimp only)
          exact W.ret ⟨rfl, K2⟩
        | true =>
          rw [hw] at hin
          have hwb := of_decide_eq_true hw
          obtain ⟨E, rfl⟩ := Int.eq_ofNat_of_zero_le hwb.1
          have hE : E < ws.length := by omega
          have hE30 : E ≤ 30 := by omega
          rw [Bool.true_and, Int.toNat_natCast]
          have ehw := hasWire_W g lf (S := A) (k := E) (by omega) (by omega) n (by omega) h2
          cases hbe : A.testBit E with
          | false =>
            rw [hbe] at ehw
            rw [if_neg (by decide)]
            repeat (first | with_reducible refine wT ?_ | with_reducible refine wg1 rfl ?_ | with_reducible refine wpF ?_ | with_reducible refine wnT ?_ | with_reducible refine wnF ?_ | with_reducible refine wpv ?_ | with_reducible refine wsm ?_ | with_reducible refine wrI ?_ | with_reducible refine wbd (by assumption) ?_ | dsimp only)
            exact W.ret ⟨rfl, K2⟩
          | true =>
            rw [hbe] at ehw
            rw [if_pos rfl]
            have hmo : minusN A (1 <<< E) = without A E := minusN_one _ _
            have s1 : 1 <<< E < 2 ^ 62 := by rw [Nat.one_shiftLeft]; exact Nat.pow_lt_pow_right (by decide) (by omega)
            have hA8 : A < 2 ^ 8 := by omega
            have hA62 : A < 2 ^ 62 := by omega
            have s3 : without A E < 2 ^ 8 := without_lt hA8
            have hRW : replyW (natW ws) (2 ^ M - 1) A B E = (List.range' 0 ws.length).find? (fun k => B.testBit k && treeW (natW ws) (without A E ||| (1 <<< k)) (2 ^ M - 1)) := by unfold replyW; rw [hnl, List.range_eq_range']
            rw [hRW]
            obtain ⟨V, hV⟩ : ∃ V : Int, V = (match (List.range' 0 ws.length).find? (fun k => B.testBit k && treeW (natW ws) (without A E ||| (1 <<< k)) (2 ^ M - 1)) with | some k => (k : Int) | none => -1) := ⟨_, rfl⟩
            refine W.mono (Q' := fun v h' => v = .int .i64 V ∧ Keep h.length h h') ?_ (fun v h' ⟨hv, hk⟩ => ⟨by rw [hv, hV]; generalize (List.range' 0 ws.length).find? _ = o; cases o <;> rfl, hk⟩)
            have hTL : ∀ Y : Nat, Y < 2 ^ ws.length → treeL (M : Int) ws (Y : Int) = treeW (natW ws) Y (2 ^ M - 1) := fun Y hY => by
              unfold treeL
              rw [hb, Int.toNat_natCast, Int.toNat_natCast, decide_eq_true (by omega : 0 ≤ (Y : Int) ∧ (Y : Int) < ((2 ^ ws.length : Nat) : Int))]
              rfl
            obtain ⟨D, hD⟩ : ∃ D, D = without A E := ⟨_, rfl⟩
            have hDl : D < 2 ^ ws.length := by rw [hD]; exact without_lt hA
            rw [← hD] at hmo s3 hV
            repeat (first | with_reducible refine wF ?_ | with_reducible refine wg1 rfl ?_ | with_reducible refine wpF ?_ | with_reducible refine wnT ?_ | with_reducible refine wpv ?_ | with_reducible refine wsm ?_ | with_reducible refine wbd (by assumption) ?_ | (with_reducible refine wshl hE30 ?_) | (with_reducible refine wandNot hA62 s1 ?_) | (rw [hmo]) | dsimp only)
            refine loopW (fun m s => ∃ (k : Nat) (h3 : PHeap), s = impl_TreeReply.st0 (.int .i64 (M : Int)) p (.int .i64 (B : Int)) (.int .i64 (D : Int)) (.int .i64 (ws.length : Int)) (.int .i64 (k : Int)) h3 ∧ k + m = ws.length ∧ V = (match (List.range' k m).find? (fun k => B.testBit k && treeW (natW ws) (D ||| (1 <<< k)) (2 ^ M - 1)) with | some k => (k : Int) | none => -1) ∧ Keep h.length h h3) ?_ lf ws.length _ hf ⟨0, h2, rfl, by omega, hV, K2⟩
            rintro n1 m s ⟨k, h3, rfl, hkm, hVk, k3⟩ next
            have hp3 := hp.keep k3
            rw [impl_TreeReply.body0_eq]
            unfold impl_TreeReply.body0
            simp only [env_C, env_pick, env_bin]
            cases m with
            | zero =>
              have hkl : k = ws.length := by omega
              have hVk : V = -1 := hVk
              rw [hVk]
              repeat (first | with_reducible refine wF ?_ | with_reducible refine wrI ?_ | with_reducible refine wlssF (by omega) ?_ | rw [kLoop_exit] | rw [impl_TreeReply.after0_se0_0_1_3_11_42_43_44])
              exact W.ret ⟨rfl, k3⟩
            | succ m =>
              have hk : k < ws.length := by omega
              rw [List.range'_succ, List.find?_cons] at hVk
              have hk30 : k ≤ 30 := by omega
              have s2 : 1 <<< k < 2 ^ ws.length := by rw [Nat.one_shiftLeft]; exact Nat.pow_lt_pow_right (by decide) hk
              have s4 := Nat.or_lt_two_pow hDl s2
              have s3' : D < 2 ^ 62 := by omega
              have s2' : 1 <<< k < 2 ^ 62 := by omega
              have ehk := hasWire_W g lf (S := B) (k := k) (by omega) (by omega) n (by omega) h3
              cases hbk : B.testBit k with
              | false =>
                rw [hbk] at ehk
                rw [hbk, Bool.false_and] at hVk
                repeat (first | with_reducible refine wT ?_ | with_reducible refine wF ?_ | with_reducible refine wg0 rfl ?_ | with_reducible refine wpF ?_ | with_reducible refine wsm ?_ | with_reducible refine wbd (by assumption) ?_ | with_reducible refine wadd1 (by omega) ?_ | with_reducible refine wlssT (by omega) ?_ | dsimp only)
                exact next _ _ (Nat.lt_succ_self m) ⟨k + 1, h3, rfl, by omega, hVk, k3⟩
              | true =>
                rw [hbk] at ehk
                rw [hbk, Bool.true_and] at hVk
                obtain ⟨Y, hY⟩ : ∃ Y, Y = D ||| (1 <<< k) := ⟨_, rfl⟩
                rw [← hY] at hVk s4
                obtain ⟨h4, e4, k4⟩ := treeOk_W g lf hbig hlf n (by omega) (M : Int) (Y : Int) (ht.keep k3) hp3 hl hf
                rw [hTL Y s4] at e4
                have K4 := k3.trans (k4.mono k3.1)
                cases hty : treeW (natW ws) Y (2 ^ M - 1) with
                | true =>
                  rw [hty] at e4 hVk
                  have hVk : V = (k : Int) := hVk
                  rw [hVk]
                  repeat (first | with_reducible refine wT ?_ | with_reducible refine wg1 rfl ?_ | with_reducible refine wpT ?_ | with_reducible refine wpv ?_ | with_reducible refine wsm ?_ | with_reducible refine wrI ?_ | with_reducible refine wbd (by assumption) ?_ | (with_reducible refine wshl hk30 ?_) | (with_reducible refine wor s3' s2' ?_) | (rw [← hY]) | with_reducible refine wlssT (by omega) ?_ | rw [kLoop_ret] | rw [impl_TreeReply.K0_ret] | rw [impl_TreeReply.top_sr_10] | dsimp only)
                  exact W.ret ⟨rfl, K4⟩
                | false =>
                  rw [hty] at e4 hVk
                  repeat (first | with_reducible refine wT ?_ | with_reducible refine wF ?_ | with_reducible refine wg1 rfl ?_ | with_reducible refine wpT ?_ | with_reducible refine wpv ?_ | with_reducible refine wsm ?_ | with_reducible refine wbd (by assumption) ?_ | (with_reducible refine wshl hk30 ?_) | (with_reducible refine wor s3' s2' ?_) | (rw [← hY]) | with_reducible refine wadd1 (by omega) ?_ | with_reducible refine wlssT (by omega) ?_ | dsimp only)
                  exact next _ _ (Nat.lt_succ_self m) ⟨k + 1, h4, rfl, by omega, hVk, K4⟩
  obtain ⟨_, h', e, rfl, k⟩ := this
  exact ⟨h', e, k⟩

end Go.Proofs.YtbmmcldbllhhhabDoor

