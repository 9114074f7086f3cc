/- A position turned by half a turn: both programs, and the exact law. -/
import Derived.Test.YtiflfnlpkhghpaaDoorC4
namespace Go.Proofs.YtiflfnlpkhghpaaDoor
open Go Go.Ip G

variable (g : Nat → PV) (lf n : Nat)

def turnL (r c : Int) (xs : List Int) : List Int := if posB r c xs = true then xs.reverse else []

theorem turnL_length (r c : Int) (xs : List Int) : (turnL r c xs).length ≤ xs.length := by
  unfold turnL; split <;> simp

theorem turn_loop {xs : List Int} {p : PV} (hl : xs.length ≤ 2 ^ 35) : ∀ (m i fuel : Nat) (q : PV) (ys : List Int) (h : PHeap) (b : Nat), i + m = xs.length → m < fuel → ys.length = xs.length →
    OwnSl b h q ys → b ≤ h.length → (∀ h', Keep b h h' → IntSl .i64 h' p xs) →
    ∃ h' zs, loopK (ev ((env g lf n).cx Tryd.prog impl_HalfTurned.kl) impl_HalfTurned.lp0) fuel (impl_HalfTurned.st0 p q p (.int .i64 xs.length) (.int .i64 i) h) (impl_HalfTurned.K0 (env g lf n) (kTop Tryd.prog Tryd.f20)) = some (q, h') ∧
      OwnSl b h' q zs ∧ zs.length = xs.length ∧ (∀ j : Nat, j < xs.length → zs[xs.length - 1 - j]? = if i ≤ j then xs[j]? else ys[xs.length - 1 - j]?) ∧ Keep b h h'
  | 0, i, fuel, q, ys, h, b, him, hf, hy, ho, hb, hp => by
    obtain ⟨f, rfl⟩ : ∃ f, fuel = f + 1 := ⟨fuel - 1, by omega⟩
    refine ⟨h, ys, ?_, ho, hy, fun j hj => by rw [if_neg (by omega)], Keep.refl _ _⟩
    rw [loopK_succ, impl_HalfTurned.body0_eq]
    have hlt : ¬ ((i : Int) < (xs.length : Int)) := by omega
    simp [impl_HalfTurned.body0, hlt, impl_HalfTurned.after0_se0_2_7_18_19_20_21, ho.res]
  | m + 1, i, fuel, q, ys, h, b, him, hf, hy, ho, hb, hp => by
    obtain ⟨f, rfl⟩ : ∃ f, fuel = f + 1 := ⟨fuel - 1, by omega⟩
    have hi : i < xs.length := by omega
    have hp0 := hp h (Keep.refl _ _)
    obtain ⟨a, ha, hla⟩ := hp0.at' hi
    obtain ⟨a2, h2, ha2, hs2, ho2, hk2, hlen2⟩ := ho.store (show xs.length - 1 - i < ys.length by omega) xs[i]
    obtain ⟨h', zs, hr, ho', hz, hzz, hk'⟩ := turn_loop hl m (i + 1) f q (ys.set (xs.length - 1 - i) xs[i]) h2 b (by omega) (by omega) (by simpa using hy) ho2 (by omega) (fun h3 hk3 => hp h3 (hk2.trans hk3))
    refine ⟨h', zs, ?_, ho', hz, ?_, hk2.trans hk'⟩
    · rw [loopK_succ, impl_HalfTurned.body0_eq]
      have hlt : (i : Int) < (xs.length : Int) := by omega
      have w1 : IntKind.i64.wrap ((xs.length : Int) - 1) = (xs.length : Int) - 1 := wr (by omega)
      have w2 : IntKind.i64.wrap ((xs.length : Int) - 1 - (i : Int)) = ((xs.length - 1 - i : Nat) : Int) := by rw [wr (by omega)]; omega
      simp only [impl_HalfTurned.body0, env_len, env_bin, env_indexAddr, env_load, env_store, hp0.len', bin_lss, hlt, decide_true, Option.bind_some, cond_bool, cond_true, ha, hla, bin_sub, w1, w2, ha2, hs2, bin_add, nx (show i < 2 ^ 40 by omega), kLoop_normal]
      exact hr
    · intro j hj
      rw [hzz j hj]
      by_cases h1 : i + 1 ≤ j
      · rw [if_pos h1, if_pos (by omega)]
      · rw [if_neg h1]
        by_cases h2 : i = j
        · subst h2
          rw [if_pos (Nat.le_refl _), List.getElem?_set_self (by omega), List.getElem?_eq_getElem hi]
        · rw [if_neg (by omega), List.getElem?_set_ne (by omega)]

theorem halfTurned_calls {xs : List Int} {p : PV} {h : PHeap} (N : Nat) (hN : 4 ≤ N) (r c : Int) (hp : IntSl .i64 h p xs) (hl : xs.length ≤ 2 ^ 35) (hf : xs.length < lf) :
    ∃ q h', CL g lf N fn_impl_HalfTurned [.int .i64 r, .int .i64 c, p] h = some (q, h') ∧ OwnSl h.length h' q (turnL r c xs) ∧ Keep h.length h h' := by
  obtain ⟨n, rfl⟩ : ∃ n, N = n + 4 := ⟨N - 4, by omega⟩
  rw [impl_HalfTurned.call_eq]
  have hpos := positionOk_calls g lf n r c hp (by omega) hf
  unfold turnL
  cases hb : posB r c xs with
  | false => exact ⟨.nilsl, h, by simp [impl_HalfTurned.main, hpos, hb], OwnSl.nil _ _, Keep.refl _ _⟩
  | true =>
    obtain ⟨q, h1, hm, ho, hk⟩ := made (h := h) (m := xs.length) (by omega)
    obtain ⟨h', zs, hr, ho', hz, hzz, hk'⟩ := turn_loop g lf (n + 3) hl xs.length 0 lf q (List.replicate xs.length 0) h1 h.length (by omega) hf (by simp) ho hk.1 (fun h' hk' => hp.keep (hk.trans hk'))
    refine ⟨q, h', ?_, ?_, hk.trans hk'⟩
    · simp only [impl_HalfTurned.main, env_C, env_un, env_len, env_make, env_lf, hpos, hb, Option.bind_some, un_not, Bool.not_true, cond_bool, cond_false, hp.len', hm]
      exact hr
    · rw [if_pos rfl]
      have : zs = xs.reverse := by
        apply List.ext_getElem?
        intro j
        by_cases hj : j < xs.length
        · have := hzz (xs.length - 1 - j) (by omega)
          rw [if_pos (Nat.zero_le _), show xs.length - 1 - (xs.length - 1 - j) = j by omega] at this
          rw [this, List.getElem?_reverse hj]
        · rw [List.getElem?_eq_none (by omega), List.getElem?_eq_none (by simp; omega)]
      rw [← this]; exact ho'

end Go.Proofs.YtiflfnlpkhghpaaDoor
