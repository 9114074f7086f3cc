/- A position turned by half a turn: both programs, and the exact law. -/
import Derived.Test.YtaajbolfmhhdcaaC4
namespace Go.Proofs.Ytaajbolfmhhdcaa
open Go Go.Ip G

variable (g : Nat → PV) (lf n : Nat)

def turnL (r c : Int) (xs : List Int) : List Int := if posB r c xs = true then xs.reverse else []

theorem turnL_length (r c : Int) (xs : List Int) : (turnL r c xs).length ≤ xs.length := by
  unfold turnL; split <;> simp

theorem turn_loop {xs : List Int} {p : PV} (hl : xs.length ≤ 2 ^ 35) : ∀ (m i fuel : Nat) (q : PV) (ys : List Int) (h : PHeap) (b : Nat), i + m = xs.length → m < fuel → ys.length = xs.length →
    OwnSl b h q ys → b ≤ h.length → (∀ h', Keep b h h' → IntSl .i64 h' p xs) →
    ∃ h' zs, loopK (ev ((env g lf n).cx Try.prog impl_HalfTurned.kl) impl_HalfTurned.lp0) fuel (impl_HalfTurned.st0 p q p (.int .i64 xs.length) (.int .i64 i) h) (impl_HalfTurned.K0 (env g lf n) (kTop Try.prog Try.f26)) = some (q, h') ∧
      OwnSl b h' q zs ∧ zs.length = xs.length ∧ (∀ j : Nat, j < xs.length → zs[xs.length - 1 - j]? = if i ≤ j then xs[j]? else ys[xs.length - 1 - j]?) ∧ Keep b h h'
  | 0, i, fuel, q, ys, h, b, him, hf, hy, ho, hb, hp => by
    obtain ⟨f, rfl⟩ : ∃ f, fuel = f + 1 := ⟨fuel - 1, by omega⟩
    refine ⟨h, ys, ?_, ho, hy, fun j hj => by rw [if_neg (by omega)], Keep.refl _ _⟩
    rw [loopK_succ, impl_HalfTurned.body0_eq]
    have hlt : ¬ ((i : Int) < (xs.length : Int)) := by omega
    simp [impl_HalfTurned.body0, hlt, impl_HalfTurned.after0_se0_2_7_18_19_20_21, ho.res]
  | m + 1, i, fuel, q, ys, h, b, him, hf, hy, ho, hb, hp => by
    obtain ⟨f, rfl⟩ : ∃ f, fuel = f + 1 := ⟨fuel - 1, by omega⟩
    have hi : i < xs.length := by omega
    have hp0 := hp h (Keep.refl _ _)
    obtain ⟨a, ha, hla⟩ := hp0.at' hi
    obtain ⟨a2, h2, ha2, hs2, ho2, hk2, hlen2⟩ := ho.store (show xs.length - 1 - i < ys.length by omega) xs[i]
    obtain ⟨h', zs, hr, ho', hz, hzz, hk'⟩ := turn_loop hl m (i + 1) f q (ys.set (xs.length - 1 - i) xs[i]) h2 b (by omega) (by omega) (by simpa using hy) ho2 (by omega) (fun h3 hk3 => hp h3 (hk2.trans hk3))
    refine ⟨h', zs, ?_, ho', hz, ?_, hk2.trans hk'⟩
    · rw [loopK_succ, impl_HalfTurned.body0_eq]
      have hlt : (i : Int) < (xs.length : Int) := by omega
      have w1 : IntKind.i64.wrap ((xs.length : Int) - 1) = (xs.length : Int) - 1 := wr (by omega)
      have w2 : IntKind.i64.wrap ((xs.length : Int) - 1 - (i : Int)) = ((xs.length - 1 - i : Nat) : Int) := by rw [wr (by omega)]; omega
      simp only [impl_HalfTurned.body0, env_len, env_bin, env_indexAddr, env_load, env_store, hp0.len', bin_lss, hlt, decide_true, Option.bind_some, cond_bool, cond_true, ha, hla, bin_sub, w1, w2, ha2, hs2, bin_add, nx (show i < 2 ^ 40 by omega), kLoop_normal]
      exact hr
    · intro j hj
      rw [hzz j hj]
      by_cases h1 : i + 1 ≤ j
      · rw [if_pos h1, if_pos (by omega)]
      · rw [if_neg h1]
        by_cases h2 : i = j
        · subst h2
          rw [if_pos (Nat.le_refl _), List.getElem?_set_self (by omega), List.getElem?_eq_getElem hi]
        · rw [if_neg (by omega), List.getElem?_set_ne (by omega)]

theorem halfTurned_calls {xs : List Int} {p : PV} {h : PHeap} (N : Nat) (hN : 4 ≤ N) (r c : Int) (hp : IntSl .i64 h p xs) (hl : xs.length ≤ 2 ^ 35) (hf : xs.length < lf) :
    ∃ q h', CL g lf N fn_impl_HalfTurned [.int .i64 r, .int .i64 c, p] h = some (q, h') ∧ OwnSl h.length h' q (turnL r c xs) ∧ Keep h.length h h' := by
  obtain ⟨n, rfl⟩ : ∃ n, N = n + 4 := ⟨N - 4, by omega⟩
  rw [impl_HalfTurned.call_eq]
  have hpos := positionOk_calls g lf n r c hp (by omega) hf
  unfold turnL
  cases hb : posB r c xs with
  | false => exact ⟨.nilsl, h, by simp [impl_HalfTurned.main, hpos, hb], OwnSl.nil _ _, Keep.refl _ _⟩
  | true =>
    obtain ⟨q, h1, hm, ho, hk⟩ := made (h := h) (m := xs.length) (by omega)
    obtain ⟨h', zs, hr, ho', hz, hzz, hk'⟩ := turn_loop g lf (n + 3) hl xs.length 0 lf q (List.replicate xs.length 0) h1 h.length (by omega) hf (by simp) ho hk.1 (fun h' hk' => hp.keep (hk.trans hk'))
    refine ⟨q, h', ?_, ?_, hk.trans hk'⟩
    · simp only [impl_HalfTurned.main, env_C, env_un, env_len, env_make, env_lf, hpos, hb, Option.bind_some, un_not, Bool.not_true, cond_bool, cond_false, hp.len', hm]
      exact hr
    · rw [if_pos rfl]
      have : zs = xs.reverse := by
        apply List.ext_getElem?
        intro j
        by_cases hj : j < xs.length
        · have := hzz (xs.length - 1 - j) (by omega)
          rw [if_pos (Nat.zero_le _), show xs.length - 1 - (xs.length - 1 - j) = j by omega] at this
          rw [this, List.getElem?_reverse hj]
        · rw [List.getElem?_eq_none (by omega), List.getElem?_eq_none (by simp; omega)]
      rw [← this]; exact ho'

theorem specTurn_loop {xs : List Int} {p : PV} (r c : Int) (hl : xs.length ≤ 2 ^ 35) (hlf : xs.length < lf) (hb : posB r c xs = true) : ∀ (m fuel : Nat) (q : PV) (ys : List Int) (h : PHeap) (b : Nat), m ≤ xs.length → m < fuel → ys.length + m = xs.length →
    OwnSl b h q ys → b ≤ h.length → (∀ h', Keep b h h' → IntSl .i64 h' p xs) →
    ∃ q' h', loopK (ev ((env g lf (n + 3)).cx Try.prog spec_HalfTurned.kl) spec_HalfTurned.lp0) fuel (spec_HalfTurned.st0 (.int .i64 r) (.int .i64 c) p q (.int .i64 ((m : Int) - 1)) h) (spec_HalfTurned.K0 (env g lf (n + 3)) (kTop Try.prog Try.f27)) = some (q', h') ∧
      OwnSl b h' q' (ys ++ (xs.take m).reverse) ∧ Keep b h h'
  | 0, fuel, q, ys, h, b, hm, hf, hy, ho, hb', hp => by
    obtain ⟨f, rfl⟩ : ∃ f, fuel = f + 1 := ⟨fuel - 1, by omega⟩
    refine ⟨q, h, ?_, by simpa using ho, Keep.refl _ _⟩
    rw [loopK_succ, spec_HalfTurned.body0_eq]
    simp [spec_HalfTurned.body0, spec_HalfTurned.after0_se0_0_1_2_7_8_20, ho.res]
  | m + 1, fuel, q, ys, h, b, hm, hf, hy, ho, hb', hp => by
    obtain ⟨f, rfl⟩ : ∃ f, fuel = f + 1 := ⟨fuel - 1, by omega⟩
    have hp0 := hp h (Keep.refl _ _)
    have hi : m < xs.length := by omega
    obtain ⟨a, ha, hla⟩ := hp0.at' hi
    have hpos := specPositionOk_calls g lf n r c hp0 (by omega) hlf
    obtain ⟨v, q2, h2, hb2, ha2, ho2, hk2⟩ := ho.append hb' xs[m] (by omega)
    obtain ⟨q', h', hr, ho', hk'⟩ := specTurn_loop r c hl hlf hb m f q2 (ys ++ [xs[m]]) h2 b (by omega) (by omega) (by simp; omega) ho2 (by have := hk2.1; omega) (fun h3 hk3 => hp h3 (hk2.trans hk3))
    have e0 : (((m + 1 : Nat) : Int) - 1) = (m : Int) := by omega
    refine ⟨q', h', ?_, ?_, hk2.trans hk'⟩
    · rw [loopK_succ, spec_HalfTurned.body0_eq, e0]
      have hge : (0 : Int) ≤ (m : Int) := by omega
      have w1 : IntKind.i64.wrap ((m : Int) - 1) = (m : Int) - 1 := wr (by omega)
      simp only [spec_HalfTurned.body0, env_C, env_pick, env_bin, env_indexAddr, env_load, env_buildSlice, env_append, bin_geq, hge, decide_true, Option.bind_some, want_bool, BEq.rfl, hpos, hb, pick_bool, cond_bool, cond_true, ha, hla, hb2, ha2, bin_sub, w1, kLoop_normal]
      exact hr
    · rw [List.take_succ_eq_append_getElem hi, List.reverse_append]
      simpa using ho'

theorem specHalfTurned_calls {xs : List Int} {p : PV} {h : PHeap} (N : Nat) (hN : 4 ≤ N) (r c : Int) (hp : IntSl .i64 h p xs) (hl : xs.length ≤ 2 ^ 35) (hf : xs.length < lf) :
    ∃ q h', CL g lf N fn_spec_HalfTurned [.int .i64 r, .int .i64 c, p] h = some (q, h') ∧ OwnSl h.length h' q (turnL r c xs) ∧ Keep h.length h h' := by
  obtain ⟨n, rfl⟩ : ∃ n, N = n + 4 := ⟨N - 4, by omega⟩
  rw [spec_HalfTurned.call_eq]
  obtain ⟨q1, h1, he1, ho1, hk1⟩ := empty_lit (h := h)
  have w1 : IntKind.i64.wrap ((xs.length : Int) - 1) = (xs.length : Int) - 1 := wr (by omega)
  unfold turnL
  cases hb : posB r c xs with
  | true =>
    obtain ⟨q', h', hr, ho', hk'⟩ := specTurn_loop g lf n r c hl hf hb xs.length lf q1 [] h1 h.length (Nat.le_refl _) hf (by simp) ho1 hk1.1 (fun h' hk => hp.keep (hk1.trans hk))
    refine ⟨q', h', ?_, by rw [if_pos rfl]; simpa using ho', hk1.trans hk'⟩
    simp only [spec_HalfTurned.main, env_buildSlice, env_len, env_bin, env_lf, he1, hp.len', bin_sub, w1, Option.bind_some]
    exact hr
  | false =>
    refine ⟨q1, h1, ?_, by simpa using ho1, hk1⟩
    obtain ⟨f, rfl⟩ : ∃ f, lf = f + 1 := ⟨lf - 1, by omega⟩
    have hpos := specPositionOk_calls g (f + 1) n r c (hp.keep hk1) (by omega) hf
    simp only [spec_HalfTurned.main, env_buildSlice, env_len, env_bin, env_lf, he1, hp.len', bin_sub, w1, Option.bind_some]
    rw [loopK_succ, spec_HalfTurned.body0_eq]
    by_cases h0 : (1 : Int) ≤ (xs.length : Int)
    · simp [spec_HalfTurned.body0, h0, hpos, hb, spec_HalfTurned.after0_se0_0_1_2_7_8_20, ho1.res]
    · simp [spec_HalfTurned.body0, h0, spec_HalfTurned.after0_se0_0_1_2_7_8_20, ho1.res]

theorem exactHalfTurned_calls {xs : List Int} {p : PV} {h : PHeap} (r c : Int) (hp : IntSl .i64 h p xs) (hf : 1048576 < lf) :
    ∃ h', CL g lf (n + 5) fn_laws_FnExactHalfTurned [.int .i64 r, .int .i64 c, p] h = some (.bool true, h') := by
  rw [laws_FnExactHalfTurned.call_eq]
  by_cases hbig : (1048576 : Int) < (xs.length : Int)
  · exact ⟨h, by simp [laws_FnExactHalfTurned.main, hp.len', hbig]⟩
  · have hl : xs.length ≤ 1048576 := by omega
    have hL := turnL_length r c xs
    obtain ⟨q1, h1, w, h2, q3, h3, g0, h4, y, h5, h6, h7, q8, h8, g1, h9, e1, e2, e3, e4, e5, e6, e7, e8, e9, e10, e11, e12, e13, e14, e15⟩ := exact_chain g lf (n + 4) (by omega)
      (fun q h => CL g lf (n + 4) fn_spec_HalfTurned [.int .i64 r, .int .i64 c, q] h) (fun q h => CL g lf (n + 4) fn_impl_HalfTurned [.int .i64 r, .int .i64 c, q] h)
      (fun q h hq => specHalfTurned_calls g lf (n + 4) (by omega) r c hq (by omega) (by omega)) (fun q h hq => halfTurned_calls g lf (n + 4) (by omega) r c hq (by omega) (by omega)) hp hl (by omega) hf
    refine ⟨h9, ?_⟩
    have c1 : ¬ ((1 : Int) + (xs.length : Int) < 0) := by omega
    have c2 : ¬ ((1 : Int) + ((turnL r c xs).length : Int) < 0) := by omega
    simp [laws_FnExactHalfTurned.main, hp.len', hbig, e1, e2, e3, e4, e5, e6, e7, e8, e9, e10, e11, e12, e13, e14, e15, c1, c2]

end Go.Proofs.Ytaajbolfmhhdcaa
