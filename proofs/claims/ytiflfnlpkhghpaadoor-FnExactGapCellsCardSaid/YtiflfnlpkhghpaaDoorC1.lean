/- What the laws' helpers on slices of integers, and both functions that check a position, compute. -/
import Derived.Test.YtiflfnlpkhghpaaDoorHeap
import Derived.Test.YtiflfnlpkhghpaaDoorB1
namespace Go.Proofs.YtiflfnlpkhghpaaDoor
open Go Go.Ip G

variable (g : Nat → PV) (lf n : Nat)

/-! ### toIntS: a copy -/
theorem toIntS_loop (k0 : PX → St → Res) {xs : List Int} {p : PV} : ∀ (m i fuel : Nat) (q : PV) (ys : List Int) (h : PHeap) (b : Nat), i + m = xs.length → m < fuel → ys.length = xs.length → xs.length ≤ 2 ^ 36 →
    OwnSl b h q ys → b ≤ h.length → (∀ h', Keep b h h' → IntSl .i64 h' p xs) →
    ∃ h' zs, loopK (ev ((env g lf n).cx Tryd.prog laws_toIntS.kl) laws_toIntS.lp0) fuel (laws_toIntS.st0 p q (.int .i64 i) h) (laws_toIntS.K0 (env g lf n) (kTop Tryd.prog Tryd.f39)) = some (q, h') ∧
      OwnSl b h' q zs ∧ zs = ys.take i ++ xs.drop i ∧ Keep b h h'
  | 0, i, fuel, q, ys, h, b, him, hf, hly, hlx, ho, hb, hp => by
    obtain ⟨f, rfl⟩ : ∃ f, fuel = f + 1 := ⟨fuel - 1, by omega⟩
    have hq : resV q = some q := by
      rcases ho with ⟨rfl, _⟩ | ⟨id, _, rfl, _⟩ <;> rfl
    refine ⟨h, ys, ?_, ho, ?_, Keep.refl _ _⟩
    · rw [loopK_succ, laws_toIntS.body0_eq]
      have hlt : ¬ ((i : Int) < (xs.length : Int)) := by omega
      simp [laws_toIntS.body0, (hp h (Keep.refl _ _)).len', hlt, laws_toIntS.after0_se0_0_3_4_11, hq]
    · have : i = xs.length := by omega
      rw [this, List.drop_length, List.append_nil, ← hly, List.take_length]
  | m + 1, i, fuel, q, ys, h, b, him, hf, hly, hlx, ho, hb, hp => by
    obtain ⟨f, rfl⟩ : ∃ f, fuel = f + 1 := ⟨fuel - 1, by omega⟩
    have hi : i < xs.length := by omega
    have hi' : i < ys.length := by omega
    obtain ⟨a, ha, hl⟩ := (hp h (Keep.refl _ _)).at' hi
    obtain ⟨a2, h2, ha2, hs2, ho2, hk2, hlen2⟩ := ho.store hi' xs[i]
    obtain ⟨h', zs, hr, ho', hz, hk'⟩ := toIntS_loop k0 m (i + 1) f q (ys.set i xs[i]) h2 b (by omega) (by omega) (by simpa using hly) hlx ho2 (by omega) (fun h3 hk3 => hp h3 (hk2.trans hk3))
    refine ⟨h', zs, ?_, ho', ?_, hk2.trans hk'⟩
    · rw [loopK_succ, laws_toIntS.body0_eq]
      have hlt : (i : Int) < (xs.length : Int) := by omega
      simp only [laws_toIntS.body0, env_len, env_bin, env_indexAddr, env_load, env_store, (hp h (Keep.refl _ _)).len', bin_lss, hlt, decide_true, Option.bind_some, cond_bool, cond_true, ha, hl, ha2, hs2, bin_add, nx (show i < 2 ^ 40 by omega), kLoop_normal]
      exact hr
    · rw [hz]
      apply List.ext_getElem?
      intro j
      by_cases hj : j < i
      · rw [List.getElem?_append_left (by simp; omega), List.getElem?_append_left (by simp; omega)]
        simp [hj, show j < i + 1 by omega, List.getElem?_set_ne (show i ≠ j by omega)]
      · by_cases hji : j = i
        · subst hji
          rw [List.getElem?_append_left (by simp; omega), List.getElem?_append_right (by simp; omega)]
          simp [List.getElem?_set_self hi', Nat.min_eq_left (show j ≤ ys.length by omega)]
        · rw [List.getElem?_append_right (by simp; omega), List.getElem?_append_right (by simp; omega)]
          simp only [List.length_take, List.length_set, List.getElem?_drop]
          congr 1
          omega

theorem toIntS_calls {xs : List Int} {p : PV} {h : PHeap} (N : Nat) (hN : 1 ≤ N) (hp : IntSl .i64 h p xs) (hl : xs.length ≤ 2 ^ 36) (hf : xs.length < lf) :
    ∃ q h', CL g lf N fn_laws_toIntS [p] h = some (q, h') ∧ OwnSl h.length h' q xs ∧ Keep h.length h h' := by
  obtain ⟨n, rfl⟩ : ∃ n, N = n + 1 := ⟨N - 1, by omega⟩
  rw [laws_toIntS.call_eq]
  obtain ⟨q, h1, hm, ho, hk⟩ := made (h := h) hl
  obtain ⟨h', zs, hr, ho', hz, hk'⟩ := toIntS_loop g lf n (fun _ _ => none) xs.length 0 lf q (List.replicate xs.length 0) h1 h.length (by omega) hf (by simp) hl ho hk.1 (fun h' hk' => hp.keep (hk.trans hk'))
  refine ⟨q, h', ?_, ?_, hk.trans hk'⟩
  · simp only [laws_toIntS.main, env_len, env_make, env_lf, hp.len', Option.bind_some, hm]
    exact hr
  · simp at hz; rw [hz] at ho'; exact ho'

/-! ### eqIntS: are two lists equal? -/
theorem eqIntS_loop {xs ys : List Int} {p q : PV} {h : PHeap} (hp : IntSl .i64 h p xs) (hq : IntSl .i64 h q ys) (hxy : xs.length = ys.length) (hl : xs.length ≤ 2 ^ 36) : ∀ (m i fuel : Nat), i + m = xs.length → m < fuel →
    loopK (ev ((env g lf n).cx Tryd.prog laws_eqIntS.kl) laws_eqIntS.lp0) fuel (laws_eqIntS.st0 p q (.int .i64 i) h) (laws_eqIntS.K0 (env g lf n) (kTop Tryd.prog Tryd.f40)) = some (.bool (decide (xs.drop i = ys.drop i)), h)
  | 0, i, fuel, him, hf => by
    obtain ⟨f, rfl⟩ : ∃ f, fuel = f + 1 := ⟨fuel - 1, by omega⟩
    rw [loopK_succ, laws_eqIntS.body0_eq]
    have hlt : ¬ ((i : Int) < (xs.length : Int)) := by omega
    have hd : xs.drop i = ys.drop i := by rw [List.drop_eq_nil_of_le (by omega), List.drop_eq_nil_of_le (by omega)]
    simp [laws_eqIntS.body0, hp.len', hlt, laws_eqIntS.after0_se0_0_1_5_14, hd]
  | m + 1, i, fuel, him, hf => by
    obtain ⟨f, rfl⟩ : ∃ f, fuel = f + 1 := ⟨fuel - 1, by omega⟩
    have hi : i < xs.length := by omega
    have hi' : i < ys.length := by omega
    obtain ⟨a, ha, hla⟩ := hp.at' hi
    obtain ⟨b, hb, hlb⟩ := hq.at' hi'
    have ih := eqIntS_loop hp hq hxy hl m (i + 1) f (by omega) (by omega)
    have hlt : (i : Int) < (xs.length : Int) := by omega
    rw [loopK_succ, laws_eqIntS.body0_eq]
    have hdx : xs.drop i = xs[i] :: xs.drop (i + 1) := List.drop_eq_getElem_cons hi
    have hdy : ys.drop i = ys[i] :: ys.drop (i + 1) := List.drop_eq_getElem_cons hi'
    by_cases he : xs[i] = ys[i]
    · have hne : (xs[i] != ys[i]) = false := by simp [he]
      simp only [laws_eqIntS.body0, env_len, env_bin, env_indexAddr, env_load, hp.len', bin_lss, hlt, decide_true, Option.bind_some, cond_bool, cond_true, ha, hla, hb, hlb, bin_neq, hne, cond_false, bin_add, nx (show i < 2 ^ 40 by omega), kLoop_normal, ih]
      rw [hdx, hdy, he]
      simp only [List.cons.injEq, true_and]
    · have hne : (xs[i] != ys[i]) = true := by simp [he]
      simp only [laws_eqIntS.body0, env_len, env_bin, env_indexAddr, env_load, hp.len', bin_lss, hlt, decide_true, Option.bind_some, cond_bool, cond_true, ha, hla, hb, hlb, bin_neq, hne, kLoop_ret, laws_eqIntS.K0_ret, laws_eqIntS.top_sr_4, res_bool, Option.bind_some]
      rw [hdx, hdy]
      simp only [List.cons.injEq, he, false_and, decide_false]

theorem eqIntS_calls {xs ys : List Int} {p q : PV} {h : PHeap} (hp : IntSl .i64 h p xs) (hq : IntSl .i64 h q ys) (hl : xs.length ≤ 2 ^ 36) (hf : xs.length < lf) :
    CL g lf (n + 1) fn_laws_eqIntS [p, q] h = some (.bool (decide (xs = ys)), h) := by
  rw [laws_eqIntS.call_eq]
  by_cases hxy : xs.length = ys.length
  · have := eqIntS_loop g lf n hp hq hxy hl xs.length 0 lf (by omega) hf
    simp only [laws_eqIntS.main, env_len, env_bin, env_lf, hp.len', hq.len', Option.bind_some, bin_neq, hxy, bne_self_eq_false, cond_bool, cond_false]
    simpa using this
  · have hne : ((xs.length : Int) != (ys.length : Int)) = true := by simp; omega
    have hd : ¬ xs = ys := fun e => hxy (by rw [e])
    simp [laws_eqIntS.main, hp.len', hq.len', hne, hd]

/-! ### positions -/
def contentB (x : Int) : Bool := decide (0 ≤ x ∧ x ≤ 2)
def posB (r c : Int) (xs : List Int) : Bool := boardB r c && decide ((xs.length : Int) = r * c) && xs.all contentB

theorem contentOk_calls (a : Int) (h : PHeap) : CL g lf (n + 1) fn_impl_contentOk [.int .i64 a] h = some (.bool (contentB a), h) := by
  rw [impl_contentOk.call_eq]
  by_cases h0 : a = 0
  · subst h0; simp [impl_contentOk.main, contentB]
  · by_cases h1 : a = 1
    · subst h1; simp [impl_contentOk.main, contentB]
    · by_cases h2 : a = 2
      · subst h2; simp [impl_contentOk.main, contentB]
      · have : contentB a = false := by unfold contentB; simp; omega
        have b0 : (a == 0) = false := by simp [h0]
        have b1 : (a == 1) = false := by simp [h1]
        have b2 : (a == 2) = false := by simp [h2]
        simp [impl_contentOk.main, b0, b1, b2, this]

theorem posOk_loop {xs : List Int} {p : PV} {h : PHeap} (hp : IntSl .i64 h p xs) (hl : xs.length ≤ 2 ^ 36) : ∀ (m i fuel : Nat), i + m = xs.length → m < fuel →
    loopK (ev ((env g lf (n + 1)).cx Tryd.prog impl_PositionOk.kl) impl_PositionOk.lp0) fuel (impl_PositionOk.st0 p (.int .i64 xs.length) (.int .i64 i) h) (impl_PositionOk.K0 (env g lf (n + 1)) (kTop Tryd.prog Tryd.f35)) = some (.bool ((xs.drop i).all contentB), h)
  | 0, i, fuel, him, hf => by
    obtain ⟨f, rfl⟩ : ∃ f, fuel = f + 1 := ⟨fuel - 1, by omega⟩
    rw [loopK_succ, impl_PositionOk.body0_eq]
    have hlt : ¬ ((i : Int) < (xs.length : Int)) := by omega
    simp [impl_PositionOk.body0, hlt, impl_PositionOk.after0_se0_21_22_23_24, List.drop_eq_nil_of_le (show xs.length ≤ i by omega)]
  | m + 1, i, fuel, him, hf => by
    obtain ⟨f, rfl⟩ : ∃ f, fuel = f + 1 := ⟨fuel - 1, by omega⟩
    have hi : i < xs.length := by omega
    obtain ⟨a, ha, hla⟩ := hp.at' hi
    have ih := posOk_loop hp hl m (i + 1) f (by omega) (by omega)
    have hlt : (i : Int) < (xs.length : Int) := by omega
    rw [loopK_succ, impl_PositionOk.body0_eq]
    have hdx : xs.drop i = xs[i] :: xs.drop (i + 1) := List.drop_eq_getElem_cons hi
    cases hc : contentB xs[i] with
    | true =>
      simp only [impl_PositionOk.body0, env_C, env_bin, env_indexAddr, env_load, env_un, contentOk_calls, bin_lss, hlt, decide_true, Option.bind_some, cond_bool, cond_true, ha, hla, hc, un_not, Bool.not_true, cond_false, bin_add, nx (show i < 2 ^ 40 by omega), kLoop_normal, ih]
      rw [hdx, List.all_cons, hc, Bool.true_and]
    | false =>
      simp only [impl_PositionOk.body0, env_C, env_bin, env_indexAddr, env_load, env_un, contentOk_calls, bin_lss, hlt, decide_true, Option.bind_some, cond_bool, cond_true, ha, hla, hc, un_not, Bool.not_false, kLoop_ret, impl_PositionOk.K0_ret, impl_PositionOk.top_sr_6, res_bool, Option.bind_some]
      rw [hdx, List.all_cons, hc, Bool.false_and]

theorem positionOk_calls {xs : List Int} {p : PV} {h : PHeap} (r c : Int) (hp : IntSl .i64 h p xs) (hl : xs.length ≤ 2 ^ 36) (hf : xs.length < lf) :
    CL g lf (n + 3) fn_impl_PositionOk [.int .i64 r, .int .i64 c, p] h = some (.bool (posB r c xs), h) := by
  rw [impl_PositionOk.call_eq]
  unfold posB
  cases hb : boardB r c with
  | false => simp [impl_PositionOk.main, boardOk_calls, hb]
  | true =>
    have hb' := hb
    unfold boardB at hb'
    have hm := of_decide_eq_true hb'
    have hmul := mul_small hm.1 hm.2.1 hm.2.2.1 hm.2.2.2.1
    by_cases hlen : (xs.length : Int) = r * c
    · have := posOk_loop g lf (n + 1) hp hl xs.length 0 lf (by omega) hf
      have hne : ((xs.length : Int) != r * c) = false := by simp [hlen]
      simp only [impl_PositionOk.main, env_C, env_len, env_bin, env_un, env_pick, env_lf, boardOk_calls, hb, Option.bind_some, un_not, Bool.not_true, want_bool, BEq.rfl, cond_true, hp.len', pv_some', bin_mul, hmul, bin_neq, hne, pick_bool, cond_false, cond_bool]
      simpa [hlen] using this
    · have hne : ((xs.length : Int) != r * c) = true := by simp [hlen]
      simp [impl_PositionOk.main, boardOk_calls, hb, hp.len', hmul, hne, hlen]

theorem specPos_loop {xs : List Int} {p : PV} {h : PHeap} (r c : Int) (hp : IntSl .i64 h p xs) (hl : xs.length ≤ 2 ^ 36) : ∀ (m i fuel : Nat), i + m = xs.length → m < fuel →
    loopK (ev ((env g lf (n + 2)).cx Tryd.prog spec_PositionOk.kl) spec_PositionOk.lp0) fuel (spec_PositionOk.st0 (.int .i64 r) (.int .i64 c) p (.int .i64 i) h) (spec_PositionOk.K0 (env g lf (n + 2)) (kTop Tryd.prog Tryd.f17)) =
      some (.bool ((xs.drop i).all contentB && (boardB r c && decide ((xs.length : Int) = r * c))), h)
  | 0, i, fuel, him, hf => by
    obtain ⟨f, rfl⟩ : ∃ f, fuel = f + 1 := ⟨fuel - 1, by omega⟩
    rw [loopK_succ, spec_PositionOk.body0_eq]
    have hlt : ¬ ((i : Int) < (xs.length : Int)) := by omega
    have hd : xs.drop i = [] := List.drop_eq_nil_of_le (show xs.length ≤ i by omega)
    cases hb : boardB r c with
    | false => simp [spec_PositionOk.body0, hp.len', hlt, spec_PositionOk.after0_se0_0_1_2_7_11, specBoardOk_calls, hb, hd]
    | true =>
      have hb' := hb
      unfold boardB at hb'
      have hm := of_decide_eq_true hb'
      have hmul := mul_small hm.1 hm.2.1 hm.2.2.1 hm.2.2.2.1
      simp [spec_PositionOk.body0, hp.len', hlt, spec_PositionOk.after0_se0_0_1_2_7_11, specBoardOk_calls, hb, hd, hmul]
      rfl
  | m + 1, i, fuel, him, hf => by
    obtain ⟨f, rfl⟩ : ∃ f, fuel = f + 1 := ⟨fuel - 1, by omega⟩
    have hi : i < xs.length := by omega
    obtain ⟨a, ha, hla⟩ := hp.at' hi
    have ih := specPos_loop r c hp hl m (i + 1) f (by omega) (by omega)
    have hlt : (i : Int) < (xs.length : Int) := by omega
    rw [loopK_succ, spec_PositionOk.body0_eq]
    have hdx : xs.drop i = xs[i] :: xs.drop (i + 1) := List.drop_eq_getElem_cons hi
    have hcb : contentB xs[i] = decide (0 ≤ xs[i] ∧ xs[i] ≤ 2) := rfl
    cases hc : contentB xs[i] with
    | true =>
      rw [hcb] at hc
      simp only [spec_PositionOk.body0, env_C, env_len, env_bin, env_indexAddr, env_load, env_un, l1In_calls, hp.len', bin_lss, hlt, decide_true, Option.bind_some, cond_bool, cond_true, ha, hla, hc, un_not, Bool.not_true, cond_false, bin_add, nx (show i < 2 ^ 40 by omega), kLoop_normal, ih]
      rw [hdx, List.all_cons, hcb, hc, Bool.true_and]
    | false =>
      rw [hcb] at hc
      simp only [spec_PositionOk.body0, env_C, env_len, env_bin, env_indexAddr, env_load, env_un, l1In_calls, hp.len', bin_lss, hlt, decide_true, Option.bind_some, cond_bool, cond_true, ha, hla, hc, un_not, Bool.not_false, kLoop_ret, spec_PositionOk.K0_ret, spec_PositionOk.top_sr_6, res_bool, Option.bind_some]
      rw [hdx, List.all_cons, hcb, hc, Bool.false_and, Bool.false_and]

theorem specPositionOk_calls {xs : List Int} {p : PV} {h : PHeap} (r c : Int) (hp : IntSl .i64 h p xs) (hl : xs.length ≤ 2 ^ 36) (hf : xs.length < lf) :
    CL g lf (n + 3) fn_spec_PositionOk [.int .i64 r, .int .i64 c, p] h = some (.bool (posB r c xs), h) := by
  rw [spec_PositionOk.call_eq]
  have := specPos_loop g lf n r c hp hl xs.length 0 lf (by omega) hf
  simp only [spec_PositionOk.main, env_lf]
  rw [show ((0 : Nat) : Int) = 0 from rfl] at this
  rw [this]
  unfold posB
  rw [List.drop_zero, Bool.and_comm]

end Go.Proofs.YtiflfnlpkhghpaaDoor
