/- Texts of this seat, in their order, put together by program. -/
import Derived.Test.YtfgjbfaapbhppaaDoorK7
set_option linter.unusedSimpArgs false
set_option linter.unusedVariables false
set_option linter.unusedSectionVars false
/- What the laws' helpers on slices of integers, and both functions that check a position, compute. -/
namespace Go.Proofs.YtfgjbfaapbhppaaDoor
open Go Go.Ip G

variable (g : Nat → PV) (lf n : Nat)

/-! ### toIntS: a copy -/
theorem toIntS_loop (k0 : PX → St → Res) {xs : List Int} {p : PV} : ∀ (m i fuel : Nat) (q : PV) (ys : List Int) (h : PHeap) (b : Nat), i + m = xs.length → m < fuel → ys.length = xs.length → xs.length ≤ 2 ^ 36 →
    OwnSl b h q ys → b ≤ h.length → (∀ h', Keep b h h' → IntSl .i64 h' p xs) →
    ∃ h' zs, loopK (ev ((env g lf n).cx Tryd.prog laws_toIntS.kl) laws_toIntS.lp0) fuel (laws_toIntS.st0 p q (.int .i64 i) h) (laws_toIntS.K0 (env g lf n) (kTop Tryd.prog Tryd.f35)) = some (q, h') ∧
      OwnSl b h' q zs ∧ zs = ys.take i ++ xs.drop i ∧ Keep b h h'
  | 0, i, fuel, q, ys, h, b, him, hf, hly, hlx, ho, hb, hp => by
    obtain ⟨f, rfl⟩ : ∃ f, fuel = f + 1 := ⟨fuel - 1, by omega⟩
    have hq : resV q = some q := by
      rcases ho with ⟨rfl, _⟩ | ⟨id, _, rfl, _⟩ <;> rfl
    refine ⟨h, ys, ?_, ho, ?_, Keep.refl _ _⟩
    · rw [loopK_succ, laws_toIntS.body0_eq]
      have hlt : ¬ ((i : Int) < (xs.length : Int)) := by omega
      simp [laws_toIntS.body0, (hp h (Keep.refl _ _)).len', hlt, laws_toIntS.after0_se0_0_3_4_11, hq]
    · have : i = xs.length := by omega
      rw [this, List.drop_length, List.append_nil, ← hly, List.take_length]
  | m + 1, i, fuel, q, ys, h, b, him, hf, hly, hlx, ho, hb, hp => by
    obtain ⟨f, rfl⟩ : ∃ f, fuel = f + 1 := ⟨fuel - 1, by omega⟩
    have hi : i < xs.length := by omega
    have hi' : i < ys.length := by omega
    obtain ⟨a, ha, hl⟩ := (hp h (Keep.refl _ _)).at' hi
    obtain ⟨a2, h2, ha2, hs2, ho2, hk2, hlen2⟩ := ho.store hi' xs[i]
    obtain ⟨h', zs, hr, ho', hz, hk'⟩ := toIntS_loop k0 m (i + 1) f q (ys.set i xs[i]) h2 b (by omega) (by omega) (by simpa using hly) hlx ho2 (by omega) (fun h3 hk3 => hp h3 (hk2.trans hk3))
    refine ⟨h', zs, ?_, ho', ?_, hk2.trans hk'⟩
    · rw [loopK_succ, laws_toIntS.body0_eq]
      have hlt : (i : Int) < (xs.length : Int) := by omega
      simp only [laws_toIntS.body0, env_len, env_bin, env_indexAddr, env_load, env_store, (hp h (Keep.refl _ _)).len', bin_lss, hlt, decide_true, Option.bind_some, cond_bool, cond_true, ha, hl, ha2, hs2, bin_add, nx (show i < 2 ^ 40 by omega), kLoop_normal]
      exact hr
    · rw [hz]
      apply List.ext_getElem?
      intro j
      by_cases hj : j < i
      · rw [List.getElem?_append_left (by simp; omega), List.getElem?_append_left (by simp; omega)]
        simp [hj, show j < i + 1 by omega, List.getElem?_set_ne (show i ≠ j by omega)]
      · by_cases hji : j = i
        · subst hji
          rw [List.getElem?_append_left (by simp; omega), List.getElem?_append_right (by simp; omega)]
          simp [List.getElem?_set_self hi', Nat.min_eq_left (show j ≤ ys.length by omega)]
        · rw [List.getElem?_append_right (by simp; omega), List.getElem?_append_right (by simp; omega)]
          simp only [List.length_take, List.length_set, List.getElem?_drop]
          congr 1
          omega

theorem toIntS_calls {xs : List Int} {p : PV} {h : PHeap} (N : Nat) (hN : 1 ≤ N) (hp : IntSl .i64 h p xs) (hl : xs.length ≤ 2 ^ 36) (hf : xs.length < lf) :
    ∃ q h', CL g lf N fn_laws_toIntS [p] h = some (q, h') ∧ OwnSl h.length h' q xs ∧ Keep h.length h h' := by
  obtain ⟨n, rfl⟩ : ∃ n, N = n + 1 := ⟨N - 1, by omega⟩
  rw [laws_toIntS.call_eq]
  obtain ⟨q, h1, hm, ho, hk⟩ := made (h := h) hl
  obtain ⟨h', zs, hr, ho', hz, hk'⟩ := toIntS_loop g lf n (fun _ _ => none) xs.length 0 lf q (List.replicate xs.length 0) h1 h.length (by omega) hf (by simp) hl ho hk.1 (fun h' hk' => hp.keep (hk.trans hk'))
  refine ⟨q, h', ?_, ?_, hk.trans hk'⟩
  · simp only [laws_toIntS.main, env_len, env_make, env_lf, hp.len', Option.bind_some, hm]
    exact hr
  · simp at hz; rw [hz] at ho'; exact ho'

/-! ### eqIntS: are two lists equal? -/
theorem eqIntS_loop {xs ys : List Int} {p q : PV} {h : PHeap} (hp : IntSl .i64 h p xs) (hq : IntSl .i64 h q ys) (hxy : xs.length = ys.length) (hl : xs.length ≤ 2 ^ 36) : ∀ (m i fuel : Nat), i + m = xs.length → m < fuel →
    loopK (ev ((env g lf n).cx Tryd.prog laws_eqIntS.kl) laws_eqIntS.lp0) fuel (laws_eqIntS.st0 p q (.int .i64 i) h) (laws_eqIntS.K0 (env g lf n) (kTop Tryd.prog Tryd.f36)) = some (.bool (decide (xs.drop i = ys.drop i)), h)
  | 0, i, fuel, him, hf => by
    obtain ⟨f, rfl⟩ : ∃ f, fuel = f + 1 := ⟨fuel - 1, by omega⟩
    rw [loopK_succ, laws_eqIntS.body0_eq]
    have hlt : ¬ ((i : Int) < (xs.length : Int)) := by omega
    have hd : xs.drop i = ys.drop i := by rw [List.drop_eq_nil_of_le (by omega), List.drop_eq_nil_of_le (by omega)]
    simp [laws_eqIntS.body0, hp.len', hlt, laws_eqIntS.after0_se0_0_1_5_14, hd]
  | m + 1, i, fuel, him, hf => by
    obtain ⟨f, rfl⟩ : ∃ f, fuel = f + 1 := ⟨fuel - 1, by omega⟩
    have hi : i < xs.length := by omega
    have hi' : i < ys.length := by omega
    obtain ⟨a, ha, hla⟩ := hp.at' hi
    obtain ⟨b, hb, hlb⟩ := hq.at' hi'
    have ih := eqIntS_loop hp hq hxy hl m (i + 1) f (by omega) (by omega)
    have hlt : (i : Int) < (xs.length : Int) := by omega
    rw [loopK_succ, laws_eqIntS.body0_eq]
    have hdx : xs.drop i = xs[i] :: xs.drop (i + 1) := List.drop_eq_getElem_cons hi
    have hdy : ys.drop i = ys[i] :: ys.drop (i + 1) := List.drop_eq_getElem_cons hi'
    by_cases he : xs[i] = ys[i]
    · have hne : (xs[i] != ys[i]) = false := by simp [he]
      simp only [laws_eqIntS.body0, env_len, env_bin, env_indexAddr, env_load, hp.len', bin_lss, hlt, decide_true, Option.bind_some, cond_bool, cond_true, ha, hla, hb, hlb, bin_neq, hne, cond_false, bin_add, nx (show i < 2 ^ 40 by omega), kLoop_normal, ih]
      rw [hdx, hdy, he]
      simp only [List.cons.injEq, true_and]
    · have hne : (xs[i] != ys[i]) = true := by simp [he]
      simp only [laws_eqIntS.body0, env_len, env_bin, env_indexAddr, env_load, hp.len', bin_lss, hlt, decide_true, Option.bind_some, cond_bool, cond_true, ha, hla, hb, hlb, bin_neq, hne, kLoop_ret, laws_eqIntS.K0_ret, laws_eqIntS.top_sr_4, res_bool, Option.bind_some]
      rw [hdx, hdy]
      simp only [List.cons.injEq, he, false_and, decide_false]

theorem eqIntS_calls {xs ys : List Int} {p q : PV} {h : PHeap} (hp : IntSl .i64 h p xs) (hq : IntSl .i64 h q ys) (hl : xs.length ≤ 2 ^ 36) (hf : xs.length < lf) :
    CL g lf (n + 1) fn_laws_eqIntS [p, q] h = some (.bool (decide (xs = ys)), h) := by
  rw [laws_eqIntS.call_eq]
  by_cases hxy : xs.length = ys.length
  · have := eqIntS_loop g lf n hp hq hxy hl xs.length 0 lf (by omega) hf
    simp only [laws_eqIntS.main, env_len, env_bin, env_lf, hp.len', hq.len', Option.bind_some, bin_neq, hxy, bne_self_eq_false, cond_bool, cond_false]
    simpa using this
  · have hne : ((xs.length : Int) != (ys.length : Int)) = true := by simp; omega
    have hd : ¬ xs = ys := fun e => hxy (by rw [e])
    simp [laws_eqIntS.main, hp.len', hq.len', hne, hd]

/-! ### positions -/
def contentB (x : Int) : Bool := decide (0 ≤ x ∧ x ≤ 2)
def posB (r c : Int) (xs : List Int) : Bool := boardB r c && decide ((xs.length : Int) = r * c) && xs.all contentB

theorem contentOk_calls (a : Int) (h : PHeap) : CL g lf (n + 1) fn_impl_contentOk [.int .i64 a] h = some (.bool (contentB a), h) := by
  rw [impl_contentOk.call_eq]
  by_cases h0 : a = 0
  · subst h0; simp [impl_contentOk.main, contentB]
  · by_cases h1 : a = 1
    · subst h1; simp [impl_contentOk.main, contentB]
    · by_cases h2 : a = 2
      · subst h2; simp [impl_contentOk.main, contentB]
      · have : contentB a = false := by unfold contentB; simp; omega
        have b0 : (a == 0) = false := by simp [h0]
        have b1 : (a == 1) = false := by simp [h1]
        have b2 : (a == 2) = false := by simp [h2]
        simp [impl_contentOk.main, b0, b1, b2, this]

theorem posOk_loop {xs : List Int} {p : PV} {h : PHeap} (hp : IntSl .i64 h p xs) (hl : xs.length ≤ 2 ^ 36) : ∀ (m i fuel : Nat), i + m = xs.length → m < fuel →
    loopK (ev ((env g lf (n + 1)).cx Tryd.prog impl_PositionOk.kl) impl_PositionOk.lp0) fuel (impl_PositionOk.st0 p (.int .i64 xs.length) (.int .i64 i) h) (impl_PositionOk.K0 (env g lf (n + 1)) (kTop Tryd.prog Tryd.f50)) = some (.bool ((xs.drop i).all contentB), h)
  | 0, i, fuel, him, hf => by
    obtain ⟨f, rfl⟩ : ∃ f, fuel = f + 1 := ⟨fuel - 1, by omega⟩
    rw [loopK_succ, impl_PositionOk.body0_eq]
    have hlt : ¬ ((i : Int) < (xs.length : Int)) := by omega
    simp [impl_PositionOk.body0, hlt, impl_PositionOk.after0_se0_21_22_23_24, List.drop_eq_nil_of_le (show xs.length ≤ i by omega)]
  | m + 1, i, fuel, him, hf => by
    obtain ⟨f, rfl⟩ : ∃ f, fuel = f + 1 := ⟨fuel - 1, by omega⟩
    have hi : i < xs.length := by omega
    obtain ⟨a, ha, hla⟩ := hp.at' hi
    have ih := posOk_loop hp hl m (i + 1) f (by omega) (by omega)
    have hlt : (i : Int) < (xs.length : Int) := by omega
    rw [loopK_succ, impl_PositionOk.body0_eq]
    have hdx : xs.drop i = xs[i] :: xs.drop (i + 1) := List.drop_eq_getElem_cons hi
    cases hc : contentB xs[i] with
    | true =>
      simp only [impl_PositionOk.body0, env_C, env_bin, env_indexAddr, env_load, env_un, contentOk_calls, bin_lss, hlt, decide_true, Option.bind_some, cond_bool, cond_true, ha, hla, hc, un_not, Bool.not_true, cond_false, bin_add, nx (show i < 2 ^ 40 by omega), kLoop_normal, ih]
      rw [hdx, List.all_cons, hc, Bool.true_and]
    | false =>
      simp only [impl_PositionOk.body0, env_C, env_bin, env_indexAddr, env_load, env_un, contentOk_calls, bin_lss, hlt, decide_true, Option.bind_some, cond_bool, cond_true, ha, hla, hc, un_not, Bool.not_false, kLoop_ret, impl_PositionOk.K0_ret, impl_PositionOk.top_sr_6, res_bool, Option.bind_some]
      rw [hdx, List.all_cons, hc, Bool.false_and]

theorem positionOk_calls {xs : List Int} {p : PV} {h : PHeap} (r c : Int) (hp : IntSl .i64 h p xs) (hl : xs.length ≤ 2 ^ 36) (hf : xs.length < lf) :
    CL g lf (n + 3) fn_impl_PositionOk [.int .i64 r, .int .i64 c, p] h = some (.bool (posB r c xs), h) := by
  rw [impl_PositionOk.call_eq]
  unfold posB
  cases hb : boardB r c with
  | false => simp [impl_PositionOk.main, boardOk_calls, hb]
  | true =>
    have hb' := hb
    unfold boardB at hb'
    have hm := of_decide_eq_true hb'
    have hmul := mul_small hm.1 hm.2.1 hm.2.2.1 hm.2.2.2.1
    by_cases hlen : (xs.length : Int) = r * c
    · have := posOk_loop g lf (n + 1) hp hl xs.length 0 lf (by omega) hf
      have hne : ((xs.length : Int) != r * c) = false := by simp [hlen]
      simp only [impl_PositionOk.main, env_C, env_len, env_bin, env_un, env_pick, env_lf, boardOk_calls, hb, Option.bind_some, un_not, Bool.not_true, want_bool, BEq.rfl, cond_true, hp.len', pv_some', bin_mul, hmul, bin_neq, hne, pick_bool, cond_false, cond_bool]
      simpa [hlen] using this
    · have hne : ((xs.length : Int) != r * c) = true := by simp [hlen]
      simp [impl_PositionOk.main, boardOk_calls, hb, hp.len', hmul, hne, hlen]

theorem specPos_loop {xs : List Int} {p : PV} {h : PHeap} (r c : Int) (hp : IntSl .i64 h p xs) (hl : xs.length ≤ 2 ^ 36) : ∀ (m i fuel : Nat), i + m = xs.length → m < fuel →
    loopK (ev ((env g lf (n + 2)).cx Tryd.prog spec_PositionOk.kl) spec_PositionOk.lp0) fuel (spec_PositionOk.st0 (.int .i64 r) (.int .i64 c) p (.int .i64 i) h) (spec_PositionOk.K0 (env g lf (n + 2)) (kTop Tryd.prog Tryd.f16)) =
      some (.bool ((xs.drop i).all contentB && (boardB r c && decide ((xs.length : Int) = r * c))), h)
  | 0, i, fuel, him, hf => by
    obtain ⟨f, rfl⟩ : ∃ f, fuel = f + 1 := ⟨fuel - 1, by omega⟩
    rw [loopK_succ, spec_PositionOk.body0_eq]
    have hlt : ¬ ((i : Int) < (xs.length : Int)) := by omega
    have hd : xs.drop i = [] := List.drop_eq_nil_of_le (show xs.length ≤ i by omega)
    cases hb : boardB r c with
    | false => simp [spec_PositionOk.body0, hp.len', hlt, spec_PositionOk.after0_se0_0_1_2_7_11, specBoardOk_calls, hb, hd]
    | true =>
      have hb' := hb
      unfold boardB at hb'
      have hm := of_decide_eq_true hb'
      have hmul := mul_small hm.1 hm.2.1 hm.2.2.1 hm.2.2.2.1
      simp [spec_PositionOk.body0, hp.len', hlt, spec_PositionOk.after0_se0_0_1_2_7_11, specBoardOk_calls, hb, hd, hmul]
      rfl
  | m + 1, i, fuel, him, hf => by
    obtain ⟨f, rfl⟩ : ∃ f, fuel = f + 1 := ⟨fuel - 1, by omega⟩
    have hi : i < xs.length := by omega
    obtain ⟨a, ha, hla⟩ := hp.at' hi
    have ih := specPos_loop r c hp hl m (i + 1) f (by omega) (by omega)
    have hlt : (i : Int) < (xs.length : Int) := by omega
    rw [loopK_succ, spec_PositionOk.body0_eq]
    have hdx : xs.drop i = xs[i] :: xs.drop (i + 1) := List.drop_eq_getElem_cons hi
    have hcb : contentB xs[i] = decide (0 ≤ xs[i] ∧ xs[i] ≤ 2) := rfl
    cases hc : contentB xs[i] with
    | true =>
      rw [hcb] at hc
      simp only [spec_PositionOk.body0, env_C, env_len, env_bin, env_indexAddr, env_load, env_un, l1In_calls, hp.len', bin_lss, hlt, decide_true, Option.bind_some, cond_bool, cond_true, ha, hla, hc, un_not, Bool.not_true, cond_false, bin_add, nx (show i < 2 ^ 40 by omega), kLoop_normal, ih]
      rw [hdx, List.all_cons, hcb, hc, Bool.true_and]
    | false =>
      rw [hcb] at hc
      simp only [spec_PositionOk.body0, env_C, env_len, env_bin, env_indexAddr, env_load, env_un, l1In_calls, hp.len', bin_lss, hlt, decide_true, Option.bind_some, cond_bool, cond_true, ha, hla, hc, un_not, Bool.not_false, kLoop_ret, spec_PositionOk.K0_ret, spec_PositionOk.top_sr_6, res_bool, Option.bind_some]
      rw [hdx, List.all_cons, hcb, hc, Bool.false_and, Bool.false_and]

theorem specPositionOk_calls {xs : List Int} {p : PV} {h : PHeap} (r c : Int) (hp : IntSl .i64 h p xs) (hl : xs.length ≤ 2 ^ 36) (hf : xs.length < lf) :
    CL g lf (n + 3) fn_spec_PositionOk [.int .i64 r, .int .i64 c, p] h = some (.bool (posB r c xs), h) := by
  rw [spec_PositionOk.call_eq]
  have := specPos_loop g lf n r c hp hl xs.length 0 lf (by omega) hf
  simp only [spec_PositionOk.main, env_lf]
  rw [show ((0 : Nat) : Int) = 0 from rfl] at this
  rw [this]
  unfold posB
  rw [List.drop_zero, Bool.and_comm]

end Go.Proofs.YtfgjbfaapbhppaaDoor

/- The exact law on positions. -/
namespace Go.Proofs.YtfgjbfaapbhppaaDoor
open Go Go.Ip G

variable (g : Nat → PV) (lf n : Nat)

end Go.Proofs.YtfgjbfaapbhppaaDoor

/- The marks that the exact laws lay and look for, and the lists that both programs make of a position. -/
namespace Go.Proofs.YtfgjbfaapbhppaaDoor
open Go Go.Ip G

/-- A slice of the call's own, among the objects from n up to m. -/
def OwnB (n m : Nat) (h : PHeap) (p : PV) (xs : List Int) : Prop :=
  (p = .nilsl ∧ xs = []) ∨ ∃ id, n ≤ id ∧ id < m ∧ p = .sl id 0 xs.length ∧ h[id]? = some (.own 1 (xs.map (.int .i64)))

theorem OwnSl.b {n : Nat} {h : PHeap} {p : PV} {xs : List Int} (s : OwnSl n h p xs) : OwnB n h.length h p xs := by
  rcases s with s | ⟨id, h1, h2, h3⟩
  · exact .inl s
  · exact .inr ⟨id, h1, (List.getElem?_eq_some_iff.1 h3).1, h2, h3⟩

theorem OwnB.sl {n m : Nat} {h : PHeap} {p : PV} {xs : List Int} (s : OwnB n m h p xs) : OwnSl n h p xs := by
  rcases s with s | ⟨id, h1, _, h2, h3⟩
  · exact .inl s
  · exact .inr ⟨id, h1, h2, h3⟩

theorem OwnB.int {n m : Nat} {h : PHeap} {p : PV} {xs : List Int} (s : OwnB n m h p xs) : IntSl .i64 h p xs := s.sl.int

/-- Only the objects from n up to m may have been written to. -/
def Only (n m : Nat) (h h' : PHeap) : Prop := h'.length = h.length ∧ ∀ i, (i < n ∨ m ≤ i) → h'[i]? = h[i]?

theorem Only.refl (n m : Nat) (h : PHeap) : Only n m h h := ⟨rfl, fun _ _ => rfl⟩
theorem Only.trans {n m : Nat} {a b c : PHeap} (h : Only n m a b) (k : Only n m b c) : Only n m a c := ⟨k.1.trans h.1, fun i hi => (k.2 i hi).trans (h.2 i hi)⟩
theorem Only.keep {n m : Nat} {a b : PHeap} (h : Only n m a b) : Keep n a b := ⟨by rw [h.1]; exact Nat.le_refl _, fun i hi => h.2 i (.inl hi)⟩

theorem OwnB.keep {n m : Nat} {h h' : PHeap} {p : PV} {xs : List Int} (s : OwnB n m h p xs) (k : Keep m h h') : OwnB n m h' p xs := by
  rcases s with s | ⟨id, h1, h2, h3, h4⟩
  · exact .inl s
  · exact .inr ⟨id, h1, h2, h3, by rw [k.2 id h2]; exact h4⟩

theorem OwnB.only {n m n' m' : Nat} {h h' : PHeap} {p : PV} {xs : List Int} (s : OwnB n m h p xs) (k : Only n' m' h h') (hd : m ≤ n' ∨ m' ≤ n) : OwnB n m h' p xs := by
  rcases s with s | ⟨id, h1, h2, h3, h4⟩
  · exact .inl s
  · exact .inr ⟨id, h1, h2, h3, by rw [k.2 id (by omega)]; exact h4⟩

theorem OwnB.store {n m : Nat} {h : PHeap} {p : PV} {xs : List Int} (s : OwnB n m h p xs) {i : Nat} (hi : i < xs.length) (x : Int) :
    ∃ a h', indexAddrP Tryd.prog 23 p (.int .i64 i) = some a ∧ storeP Tryd.prog 3 a (.int .i64 x) h = some h' ∧ OwnB n m h' p (xs.set i x) ∧ Only n m h h' := by
  rcases s with ⟨rfl, rfl⟩ | ⟨id, h1, h2, rfl, h3⟩
  · simp at hi
  · have hid : id < h.length := (List.getElem?_eq_some_iff.1 h3).1
    refine ⟨.ptr id (0 + i), h.set id (.own 1 ((xs.set i x).map (.int .i64))), by simp [indexAddrP, tySize, hi], ?_, .inr ⟨id, h1, h2, by simp, by rw [List.getElem?_set_self hid]⟩, ⟨by simp, fun j hj => List.getElem?_set_ne (by omega)⟩⟩
    simp only [storeP, h3, PV.cells, tySize, Nat.zero_add]
    rw [if_pos ⟨rfl, by simp; omega⟩]
    simp [setCells, List.map_set]

/-- k, k + 1, k + 2 .. -/
def marks (k : Int) : Nat → List Int
  | 0 => []
  | n + 1 => k :: marks (k + 1) n

theorem marks_length : ∀ (n : Nat) (k : Int), (marks k n).length = n
  | 0, _ => rfl
  | n + 1, k => by rw [marks, List.length_cons, marks_length n]

theorem marks_get : ∀ (n : Nat) (k : Int) (i : Nat), i < n → (marks k n)[i]? = some (k + i)
  | 0, _, _, h => by omega
  | n + 1, k, 0, _ => by simp [marks]
  | n + 1, k, i + 1, h => by rw [marks, List.getElem?_cons_succ, marks_get n (k + 1) i (by omega)]; congr 1; push_cast; omega

variable (g : Nat → PV) (lf n : Nat)

theorem nk {k : Int} (h0 : 0 ≤ k) (h1 : k < 2 ^ 41) : IntKind.i64.wrap (k + 1) = k + 1 := wr (by omega)

theorem mark_loop {a b : Nat} {p : PV} : ∀ (m i fuel : Nat) (k : Int) (xs : List Int) (h : PHeap), OwnB a b h p xs → i + m = xs.length → m < fuel → xs.length ≤ 2 ^ 36 → 0 ≤ k → k ≤ 2 ^ 40 + i →
    ∃ h' zs, loopK (ev ((env g lf n).cx Tryd.prog laws_markIntS.kl) laws_markIntS.lp0) fuel (laws_markIntS.st0 p (.int .i64 k) (.int .i64 i) h) (laws_markIntS.K0 (env g lf n) (kTop Tryd.prog Tryd.f37)) = some (.int .i64 (k + m), h') ∧
      OwnB a b h' p zs ∧ zs = xs.take i ++ marks k m ∧ Only a b h h'
  | 0, i, fuel, k, xs, h, hp, him, hf, hl, h0, hk => by
    obtain ⟨f, rfl⟩ : ∃ f, fuel = f + 1 := ⟨fuel - 1, by omega⟩
    refine ⟨h, xs, ?_, hp, ?_, Only.refl _ _ _⟩
    · rw [loopK_succ, laws_markIntS.body0_eq]
      have hlt : ¬ ((i : Int) < (xs.length : Int)) := by omega
      simp [laws_markIntS.body0, hp.int.len', hlt, laws_markIntS.after0_se0_0_1_5_9]
    · rw [marks, List.append_nil, List.take_of_length_le (by omega)]
  | m + 1, i, fuel, k, xs, h, hp, him, hf, hl, h0, hk => by
    obtain ⟨f, rfl⟩ : ∃ f, fuel = f + 1 := ⟨fuel - 1, by omega⟩
    have hi : i < xs.length := by omega
    obtain ⟨ad, h2, ha, hs, hp2, ho⟩ := hp.store hi k
    obtain ⟨h', zs, hr, hp', hz, ho'⟩ := mark_loop m (i + 1) f (k + 1) (xs.set i k) h2 hp2 (by simp; omega) (by omega) (by simpa using hl) (by omega) (by push_cast; omega)
    refine ⟨h', zs, ?_, hp', ?_, ho.trans ho'⟩
    · rw [loopK_succ, laws_markIntS.body0_eq]
      have hlt : (i : Int) < (xs.length : Int) := by omega
      simp only [laws_markIntS.body0, env_len, env_bin, env_indexAddr, env_store, hp.int.len', bin_lss, hlt, decide_true, Option.bind_some, cond_bool, cond_true, ha, hs, bin_add, nx (show i < 2 ^ 40 by omega), nk h0 (by omega), kLoop_normal]
      rw [hr]
      congr 3
      push_cast
      omega
    · rw [hz, marks]
      apply List.ext_getElem?
      intro j
      by_cases hj : j < i
      · rw [List.getElem?_append_left (by simp; omega), List.getElem?_append_left (by simp; omega)]
        simp [hj, show j < i + 1 by omega, List.getElem?_set_ne (show i ≠ j by omega)]
      · by_cases hji : j = i
        · subst hji
          rw [List.getElem?_append_left (by simp; omega), List.getElem?_append_right (by simp; omega)]
          simp [List.getElem?_set_self hi, Nat.min_eq_left (show j ≤ xs.length by omega)]
        · rw [List.getElem?_append_right (by simp; omega), List.getElem?_append_right (by simp; omega)]
          simp only [List.length_take, List.length_set]
          rw [show j - min i xs.length = (j - min (i + 1) xs.length) + 1 by omega, List.getElem?_cons_succ]

theorem markIntS_calls {a b : Nat} {p : PV} {xs : List Int} {h : PHeap} (N : Nat) (hN : 1 ≤ N) (hp : OwnB a b h p xs) (hl : xs.length ≤ 2 ^ 36) (hf : xs.length < lf) :
    ∃ h', CL g lf N fn_laws_markIntS [p, .int .i64 1] h = some (.int .i64 (1 + xs.length), h') ∧ OwnB a b h' p (marks 1 xs.length) ∧ Only a b h h' := by
  obtain ⟨n, rfl⟩ : ∃ n, N = n + 1 := ⟨N - 1, by omega⟩
  rw [laws_markIntS.call_eq]
  obtain ⟨h', zs, hr, hp', hz, ho⟩ := mark_loop g lf n xs.length 0 lf 1 xs h hp (by omega) hf hl (by omega) (by omega)
  refine ⟨h', ?_, by simp at hz; rw [hz] at hp'; exact hp', ho⟩
  simp only [laws_markIntS.main, env_lf]
  exact hr

theorem held_loop {p : PV} {h : PHeap} {xs : List Int} (hp : IntSl .i64 h p xs) (hl : xs.length ≤ 2 ^ 36) : ∀ (m i fuel : Nat) (k : Int), i + m = xs.length → m < fuel → 0 ≤ k → k ≤ 2 ^ 40 + i → (∀ j : Nat, i ≤ j → j < xs.length → xs[j]? = some (k + (j - i))) →
    loopK (ev ((env g lf n).cx Tryd.prog laws_heldIntS.kl) laws_heldIntS.lp0) fuel (laws_heldIntS.st0 p (.int .i64 k) (.int .i64 i) h) (laws_heldIntS.K0 (env g lf n) (kTop Tryd.prog Tryd.f38)) = some (.int .i64 (k + m), h)
  | 0, i, fuel, k, him, hf, h0, hk, hx => by
    obtain ⟨f, rfl⟩ : ∃ f, fuel = f + 1 := ⟨fuel - 1, by omega⟩
    rw [loopK_succ, laws_heldIntS.body0_eq]
    have hlt : ¬ ((i : Int) < (xs.length : Int)) := by omega
    simp [laws_heldIntS.body0, hp.len', hlt, laws_heldIntS.after0_se0_0_1_5_9]
  | m + 1, i, fuel, k, him, hf, h0, hk, hx => by
    obtain ⟨f, rfl⟩ : ∃ f, fuel = f + 1 := ⟨fuel - 1, by omega⟩
    have hi : i < xs.length := by omega
    obtain ⟨ad, ha, hla⟩ := hp.at' hi
    have hxi : xs[i] = k := by
      have := hx i (Nat.le_refl _) hi
      rw [List.getElem?_eq_getElem hi] at this
      have := Option.some.inj this
      omega
    have ih := held_loop hp hl m (i + 1) f (k + 1) (by omega) (by omega) (by omega) (by push_cast; omega) (fun j h1 h2 => by rw [hx j (by omega) h2]; congr 1; push_cast; omega)
    have hlt : (i : Int) < (xs.length : Int) := by omega
    have hne : (xs[i] != k) = false := by simp [hxi]
    rw [loopK_succ, laws_heldIntS.body0_eq]
    simp only [laws_heldIntS.body0, env_len, env_bin, env_indexAddr, env_load, hp.len', bin_lss, hlt, decide_true, Option.bind_some, cond_bool, cond_true, ha, hla, bin_neq, hne, cond_false, bin_add, nx (show i < 2 ^ 40 by omega), nk h0 (by omega), kLoop_normal, ih]
    congr 3
    push_cast
    omega

theorem heldIntS_calls {p : PV} {m : Nat} {h : PHeap} (N : Nat) (hN : 1 ≤ N) (hp : IntSl .i64 h p (marks 1 m)) (hl : m ≤ 2 ^ 36) (hf : m < lf) :
    CL g lf N fn_laws_heldIntS [p, .int .i64 1] h = some (.int .i64 (1 + m), h) := by
  obtain ⟨n, rfl⟩ : ∃ n, N = n + 1 := ⟨N - 1, by omega⟩
  rw [laws_heldIntS.call_eq]
  have hm := marks_length m 1
  have := held_loop g lf n hp (by omega) m 0 lf 1 (by omega) hf (by omega) (by omega) (fun j _ h2 => by rw [marks_get m 1 j (by omega)]; congr 1)
  simp only [laws_heldIntS.main, env_lf]
  exact this

end Go.Proofs.YtfgjbfaapbhppaaDoor

/- The cells of one kind, and a position turned by half a turn: both programs, and their exact laws. -/
namespace Go.Proofs.YtfgjbfaapbhppaaDoor
open Go Go.Ip G

variable (g : Nat → PV) (lf n : Nat)

theorem OwnSl.res {n : Nat} {h : PHeap} {p : PV} {xs : List Int} (s : OwnSl n h p xs) : resV p = some p := by
  rcases s with ⟨rfl, _⟩ | ⟨id, _, rfl, _⟩ <;> rfl

/-- The places, from i on, at which a list has x. -/
def cellsFrom (x : Int) : Nat → List Int → List Int
  | _, [] => []
  | i, y :: ys => if y = x then (i : Int) :: cellsFrom x (i + 1) ys else cellsFrom x (i + 1) ys

theorem cellsFrom_length (x : Int) : ∀ (ys : List Int) (i : Nat), (cellsFrom x i ys).length ≤ ys.length
  | [], _ => Nat.le_refl _
  | y :: ys, i => by
    have := cellsFrom_length x ys (i + 1)
    rw [cellsFrom]
    split <;> simp <;> omega

theorem cellsFrom_none (x : Int) (hx : contentB x = false) : ∀ (ys : List Int) (i : Nat), ys.all contentB = true → cellsFrom x i ys = []
  | [], _, _ => rfl
  | y :: ys, i, h => by
    simp only [List.all_cons, Bool.and_eq_true] at h
    have hne : ¬ y = x := fun e => by rw [e, hx] at h; cases h.1
    rw [cellsFrom, if_neg hne]
    exact cellsFrom_none x hx ys (i + 1) h.2

theorem cellsOf_loop {xs : List Int} {p : PV} (x : Int) (hl : xs.length ≤ 2 ^ 35) : ∀ (m i fuel : Nat) (q : PV) (ys : List Int) (h : PHeap) (b : Nat), i + m = xs.length → m < fuel → ys.length ≤ i →
    OwnSl b h q ys → b ≤ h.length → (∀ h', Keep b h h' → IntSl .i64 h' p xs) →
    ∃ q' h', loopK (ev ((env g lf n).cx Tryd.prog impl_CellsOf.kl) impl_CellsOf.lp0) fuel (impl_CellsOf.st0 (.int .i64 x) q p (.int .i64 xs.length) (.int .i64 i) h) (impl_CellsOf.K0 (env g lf n) (kTop Tryd.prog Tryd.f30)) = some (q', h') ∧
      OwnSl b h' q' (ys ++ cellsFrom x i (xs.drop i)) ∧ Keep b h h'
  | 0, i, fuel, q, ys, h, b, him, hf, hy, ho, hb, hp => by
    obtain ⟨f, rfl⟩ : ∃ f, fuel = f + 1 := ⟨fuel - 1, by omega⟩
    refine ⟨q, h, ?_, ?_, Keep.refl _ _⟩
    · rw [loopK_succ, impl_CellsOf.body0_eq]
      have hlt : ¬ ((i : Int) < (xs.length : Int)) := by omega
      simp [impl_CellsOf.body0, hlt, impl_CellsOf.after0_se0_3_9_22_23_24_25, ho.res]
    · rw [List.drop_eq_nil_of_le (by omega), cellsFrom, List.append_nil]; exact ho
  | m + 1, i, fuel, q, ys, h, b, him, hf, hy, ho, hb, hp => by
    obtain ⟨f, rfl⟩ : ∃ f, fuel = f + 1 := ⟨fuel - 1, by omega⟩
    have hi : i < xs.length := by omega
    obtain ⟨a, ha, hla⟩ := (hp h (Keep.refl _ _)).at' hi
    have hlt : (i : Int) < (xs.length : Int) := by omega
    have hdx : xs.drop i = xs[i] :: xs.drop (i + 1) := List.drop_eq_getElem_cons hi
    by_cases he : xs[i] = x
    · have heq : (xs[i] == x) = true := by simp [he]
      obtain ⟨v, q2, h2, hb2, ha2, ho2, hk2⟩ := ho.append hb (i : Int) (by omega)
      obtain ⟨q', h', hr, ho', hk'⟩ := cellsOf_loop x hl m (i + 1) f q2 (ys ++ [(i : Int)]) h2 b (by omega) (by omega) (by simp; omega) ho2 (by have := hk2.1; omega) (fun h3 hk3 => hp h3 (hk2.trans hk3))
      refine ⟨q', h', ?_, ?_, hk2.trans hk'⟩
      · rw [loopK_succ, impl_CellsOf.body0_eq]
        simp only [impl_CellsOf.body0, env_bin, env_indexAddr, env_load, env_buildSlice, env_append, bin_lss, hlt, decide_true, Option.bind_some, cond_bool, cond_true, ha, hla, bin_eql, heq, hb2, ha2, bin_add, nx (show i < 2 ^ 40 by omega), kLoop_normal]
        exact hr
      · rw [hdx, cellsFrom, if_pos he, List.append_cons]; exact ho'
    · have heq : (xs[i] == x) = false := by simp [he]
      obtain ⟨q', h', hr, ho', hk'⟩ := cellsOf_loop x hl m (i + 1) f q ys h b (by omega) (by omega) (by omega) ho hb hp
      refine ⟨q', h', ?_, ?_, hk'⟩
      · rw [loopK_succ, impl_CellsOf.body0_eq]
        simp only [impl_CellsOf.body0, env_bin, env_indexAddr, env_load, bin_lss, hlt, decide_true, Option.bind_some, cond_bool, cond_true, cond_false, ha, hla, bin_eql, heq, bin_add, nx (show i < 2 ^ 40 by omega), kLoop_normal]
        exact hr
      · rw [hdx, cellsFrom, if_neg he]; exact ho'

def cellsL (r c : Int) (xs : List Int) (x : Int) : List Int := if posB r c xs = true then cellsFrom x 0 xs else []

theorem cellsL_length (r c : Int) (xs : List Int) (x : Int) : (cellsL r c xs x).length ≤ xs.length := by
  unfold cellsL; split
  · exact cellsFrom_length x xs 0
  · simp

theorem cellsOf_calls {xs : List Int} {p : PV} {h : PHeap} (N : Nat) (hN : 4 ≤ N) (r c x : Int) (hp : IntSl .i64 h p xs) (hl : xs.length ≤ 2 ^ 35) (hf : xs.length < lf) :
    ∃ q h', CL g lf N fn_impl_CellsOf [.int .i64 r, .int .i64 c, p, .int .i64 x] h = some (q, h') ∧ OwnSl h.length h' q (cellsL r c xs x) ∧ Keep h.length h h' := by
  obtain ⟨n, rfl⟩ : ∃ n, N = n + 4 := ⟨N - 4, by omega⟩
  rw [impl_CellsOf.call_eq]
  have hpos := positionOk_calls g lf n r c hp (by omega) hf
  unfold cellsL
  cases hb : posB r c xs with
  | false => exact ⟨.nilsl, h, by simp [impl_CellsOf.main, hpos, hb], OwnSl.nil _ _, Keep.refl _ _⟩
  | true =>
    cases hx : contentB x with
    | false =>
      have hall : xs.all contentB = true := by unfold posB at hb; simp only [Bool.and_eq_true] at hb; exact hb.2
      refine ⟨.nilsl, h, by simp [impl_CellsOf.main, hpos, hb, contentOk_calls, hx], ?_, Keep.refl _ _⟩
      rw [if_pos rfl, cellsFrom_none x hx xs 0 hall]
      exact OwnSl.nil _ _
    | true =>
      obtain ⟨q', h', hr, ho', hk'⟩ := cellsOf_loop g lf (n + 3) x hl xs.length 0 lf .nilsl [] h h.length (by omega) hf (by simp) (OwnSl.nil _ _) (Nat.le_refl _) (fun h' hk => hp.keep hk)
      refine ⟨q', h', ?_, ?_, hk'⟩
      · simp only [impl_CellsOf.main, env_C, env_un, env_pick, env_len, env_lf, hpos, hb, Option.bind_some, un_not, Bool.not_true, want_bool, BEq.rfl, cond_true, contentOk_calls, hx, pv_some', pick_bool, cond_false, cond_bool, hp.len']
        exact hr
      · rw [if_pos rfl]; simpa using ho'

/-- Of two functions that make one list of a position both sides of an exact law come out the same: what the law looks at, in its order. -/
theorem exact_chain {xs L : List Int} {p : PV} {h : PHeap} (N : Nat) (hN : 1 ≤ N) (fS fI : PV → PHeap → Res)
    (hS : ∀ q h, IntSl .i64 h q xs → ∃ w h', fS q h = some (w, h') ∧ OwnSl h.length h' w L ∧ Keep h.length h h')
    (hI : ∀ q h, IntSl .i64 h q xs → ∃ w h', fI q h = some (w, h') ∧ OwnSl h.length h' w L ∧ Keep h.length h h')
    (hp : IntSl .i64 h p xs) (hl : xs.length ≤ 1048576) (hL : L.length ≤ 1048576) (hf : 1048576 < lf) :
    ∃ q1 h1 w h2 q3 h3 g0 h4 y h5 h6 h7 q8 h8 g1 h9, CL g lf N fn_laws_toIntS [p] h = some (q1, h1) ∧ fS q1 h1 = some (w, h2) ∧ CL g lf N fn_laws_toIntS [p] h2 = some (q3, h3) ∧ fI q3 h3 = some (g0, h4) ∧
      CL g lf N fn_laws_eqIntS [g0, w] h4 = some (.bool true, h4) ∧ CL g lf N fn_laws_toIntS [p] h4 = some (y, h5) ∧ CL g lf N fn_laws_eqIntS [q3, y] h5 = some (.bool true, h5) ∧
      CL g lf N fn_laws_markIntS [q3, .int .i64 1] h5 = some (.int .i64 (1 + xs.length), h6) ∧ CL g lf N fn_laws_eqIntS [g0, w] h6 = some (.bool true, h6) ∧
      CL g lf N fn_laws_markIntS [g0, .int .i64 1] h6 = some (.int .i64 (1 + L.length), h7) ∧ CL g lf N fn_laws_heldIntS [g0, .int .i64 1] h7 = some (.int .i64 (1 + L.length), h7) ∧
      CL g lf N fn_laws_toIntS [p] h7 = some (q8, h8) ∧ fI q8 h8 = some (g1, h9) ∧ CL g lf N fn_laws_eqIntS [g1, w] h9 = some (.bool true, h9) ∧ CL g lf N fn_laws_heldIntS [g0, .int .i64 1] h9 = some (.int .i64 (1 + L.length), h9) := by
  obtain ⟨n, rfl⟩ : ∃ n, N = n + 1 := ⟨N - 1, by omega⟩
  obtain ⟨q1, h1, e1, o1, k1⟩ := toIntS_calls g lf (n + 1) (by omega) hp (by omega) (by omega)
  obtain ⟨w, h2, e2, ow, k2⟩ := hS q1 h1 o1.int
  have K2 : Keep h.length h h2 := k1.trans (k2.mono k1.1)
  obtain ⟨q3, h3, e3, o3, k3⟩ := toIntS_calls g lf (n + 1) (by omega) (hp.keep K2) (by omega) (by omega)
  have K3 : Keep h.length h h3 := K2.trans (k3.mono K2.1)
  obtain ⟨g0, h4, e4, og, k4⟩ := hI q3 h3 o3.int
  have K4 : Keep h.length h h4 := K3.trans (k4.mono K3.1)
  obtain ⟨y, h5, e5, oy, k5⟩ := toIntS_calls g lf (n + 1) (by omega) (hp.keep K4) (by omega) (by omega)
  have K5 : Keep h.length h h5 := K4.trans (k5.mono K4.1)
  have w2 := ow.b
  have w3 := w2.keep k3
  have w4 := w3.keep (k4.mono k3.1)
  have w5 := w4.keep (k5.mono (Nat.le_trans k3.1 k4.1))
  have x3 := o3.b
  have x4 := x3.keep k4
  have x5 := x4.keep (k5.mono k4.1)
  have g4 := og.b
  have g5 := g4.keep k5
  have s4 := eqIntS_calls g lf n og.int w4.int (by omega) (by omega)
  have s5 := eqIntS_calls g lf n x5.int oy.int (by omega) (by omega)
  obtain ⟨h6, e6, x6, t6⟩ := markIntS_calls g lf (n + 1) (by omega) x5 (by omega) (by omega)
  have K6 : Keep h.length h h6 := K5.trans (t6.keep.mono (K2.1))
  have w6 := w5.only t6 (.inl (Nat.le_refl _))
  have g6 := g5.only t6 (.inr (Nat.le_refl _))
  have s6 := eqIntS_calls g lf n g6.int w6.int (by omega) (by omega)
  obtain ⟨h7, e7, g7, t7⟩ := markIntS_calls g lf (n + 1) (by omega) g6 (by omega) (by omega)
  have K7 : Keep h.length h h7 := K6.trans (t7.keep.mono (K3.1))
  have w7 := w6.only t7 (.inl k3.1)
  have s7 := heldIntS_calls g lf (n + 1) (by omega) g7.int (by omega) (by omega)
  obtain ⟨q8, h8, e8, o8, k8⟩ := toIntS_calls g lf (n + 1) (by omega) (hp.keep K7) (by omega) (by omega)
  obtain ⟨g1, h9, e9, o9, k9⟩ := hI q8 h8 o8.int
  have len7 : h4.length ≤ h7.length := by rw [t7.1, t6.1]; exact k5.1
  have len2 : h2.length ≤ h7.length := Nat.le_trans (Nat.le_trans k3.1 k4.1) len7
  have w8 := w7.keep (k8.mono len2)
  have w9 := w8.keep (k9.mono (Nat.le_trans len2 k8.1))
  have g8 := g7.keep (k8.mono len7)
  have g9 := g8.keep (k9.mono (Nat.le_trans len7 k8.1))
  have s9 := eqIntS_calls g lf n o9.int w9.int (by omega) (by omega)
  have s10 := heldIntS_calls g lf (n + 1) (by omega) g9.int (by omega) (by omega)
  simp only [decide_true] at s4 s5 s6 s9
  exact ⟨q1, h1, w, h2, q3, h3, g0, h4, y, h5, h6, h7, q8, h8, g1, h9, e1, e2, e3, e4, s4, e5, s5, e6, s6, e7, s7, e8, e9, s9, s10⟩

end Go.Proofs.YtfgjbfaapbhppaaDoor

/- A position turned by half a turn: both programs, and the exact law. -/
namespace Go.Proofs.YtfgjbfaapbhppaaDoor
open Go Go.Ip G

variable (g : Nat → PV) (lf n : Nat)

def turnL (r c : Int) (xs : List Int) : List Int := if posB r c xs = true then xs.reverse else []

theorem turnL_length (r c : Int) (xs : List Int) : (turnL r c xs).length ≤ xs.length := by
  unfold turnL; split <;> simp

theorem turn_loop {xs : List Int} {p : PV} (hl : xs.length ≤ 2 ^ 35) : ∀ (m i fuel : Nat) (q : PV) (ys : List Int) (h : PHeap) (b : Nat), i + m = xs.length → m < fuel → ys.length = xs.length →
    OwnSl b h q ys → b ≤ h.length → (∀ h', Keep b h h' → IntSl .i64 h' p xs) →
    ∃ h' zs, loopK (ev ((env g lf n).cx Tryd.prog impl_HalfTurned.kl) impl_HalfTurned.lp0) fuel (impl_HalfTurned.st0 p q p (.int .i64 xs.length) (.int .i64 i) h) (impl_HalfTurned.K0 (env g lf n) (kTop Tryd.prog Tryd.f34)) = some (q, h') ∧
      OwnSl b h' q zs ∧ zs.length = xs.length ∧ (∀ j : Nat, j < xs.length → zs[xs.length - 1 - j]? = if i ≤ j then xs[j]? else ys[xs.length - 1 - j]?) ∧ Keep b h h'
  | 0, i, fuel, q, ys, h, b, him, hf, hy, ho, hb, hp => by
    obtain ⟨f, rfl⟩ : ∃ f, fuel = f + 1 := ⟨fuel - 1, by omega⟩
    refine ⟨h, ys, ?_, ho, hy, fun j hj => by rw [if_neg (by omega)], Keep.refl _ _⟩
    rw [loopK_succ, impl_HalfTurned.body0_eq]
    have hlt : ¬ ((i : Int) < (xs.length : Int)) := by omega
    simp [impl_HalfTurned.body0, hlt, impl_HalfTurned.after0_se0_2_7_18_19_20_21, ho.res]
  | m + 1, i, fuel, q, ys, h, b, him, hf, hy, ho, hb, hp => by
    obtain ⟨f, rfl⟩ : ∃ f, fuel = f + 1 := ⟨fuel - 1, by omega⟩
    have hi : i < xs.length := by omega
    have hp0 := hp h (Keep.refl _ _)
    obtain ⟨a, ha, hla⟩ := hp0.at' hi
    obtain ⟨a2, h2, ha2, hs2, ho2, hk2, hlen2⟩ := ho.store (show xs.length - 1 - i < ys.length by omega) xs[i]
    obtain ⟨h', zs, hr, ho', hz, hzz, hk'⟩ := turn_loop hl m (i + 1) f q (ys.set (xs.length - 1 - i) xs[i]) h2 b (by omega) (by omega) (by simpa using hy) ho2 (by omega) (fun h3 hk3 => hp h3 (hk2.trans hk3))
    refine ⟨h', zs, ?_, ho', hz, ?_, hk2.trans hk'⟩
    · rw [loopK_succ, impl_HalfTurned.body0_eq]
      have hlt : (i : Int) < (xs.length : Int) := by omega
      have w1 : IntKind.i64.wrap ((xs.length : Int) - 1) = (xs.length : Int) - 1 := wr (by omega)
      have w2 : IntKind.i64.wrap ((xs.length : Int) - 1 - (i : Int)) = ((xs.length - 1 - i : Nat) : Int) := by rw [wr (by omega)]; omega
      simp only [impl_HalfTurned.body0, env_len, env_bin, env_indexAddr, env_load, env_store, hp0.len', bin_lss, hlt, decide_true, Option.bind_some, cond_bool, cond_true, ha, hla, bin_sub, w1, w2, ha2, hs2, bin_add, nx (show i < 2 ^ 40 by omega), kLoop_normal]
      exact hr
    · intro j hj
      rw [hzz j hj]
      by_cases h1 : i + 1 ≤ j
      · rw [if_pos h1, if_pos (by omega)]
      · rw [if_neg h1]
        by_cases h2 : i = j
        · subst h2
          rw [if_pos (Nat.le_refl _), List.getElem?_set_self (by omega), List.getElem?_eq_getElem hi]
        · rw [if_neg (by omega), List.getElem?_set_ne (by omega)]

theorem halfTurned_calls {xs : List Int} {p : PV} {h : PHeap} (N : Nat) (hN : 4 ≤ N) (r c : Int) (hp : IntSl .i64 h p xs) (hl : xs.length ≤ 2 ^ 35) (hf : xs.length < lf) :
    ∃ q h', CL g lf N fn_impl_HalfTurned [.int .i64 r, .int .i64 c, p] h = some (q, h') ∧ OwnSl h.length h' q (turnL r c xs) ∧ Keep h.length h h' := by
  obtain ⟨n, rfl⟩ : ∃ n, N = n + 4 := ⟨N - 4, by omega⟩
  rw [impl_HalfTurned.call_eq]
  have hpos := positionOk_calls g lf n r c hp (by omega) hf
  unfold turnL
  cases hb : posB r c xs with
  | false => exact ⟨.nilsl, h, by simp [impl_HalfTurned.main, hpos, hb], OwnSl.nil _ _, Keep.refl _ _⟩
  | true =>
    obtain ⟨q, h1, hm, ho, hk⟩ := made (h := h) (m := xs.length) (by omega)
    obtain ⟨h', zs, hr, ho', hz, hzz, hk'⟩ := turn_loop g lf (n + 3) hl xs.length 0 lf q (List.replicate xs.length 0) h1 h.length (by omega) hf (by simp) ho hk.1 (fun h' hk' => hp.keep (hk.trans hk'))
    refine ⟨q, h', ?_, ?_, hk.trans hk'⟩
    · simp only [impl_HalfTurned.main, env_C, env_un, env_len, env_make, env_lf, hpos, hb, Option.bind_some, un_not, Bool.not_true, cond_bool, cond_false, hp.len', hm]
      exact hr
    · rw [if_pos rfl]
      have : zs = xs.reverse := by
        apply List.ext_getElem?
        intro j
        by_cases hj : j < xs.length
        · have := hzz (xs.length - 1 - j) (by omega)
          rw [if_pos (Nat.zero_le _), show xs.length - 1 - (xs.length - 1 - j) = j by omega] at this
          rw [this, List.getElem?_reverse hj]
        · rw [List.getElem?_eq_none (by omega), List.getElem?_eq_none (by simp; omega)]
      rw [← this]; exact ho'

end Go.Proofs.YtfgjbfaapbhppaaDoor

/- The reader from which the model draws: what a pick may come to. -/
namespace Go.Proofs.YtfgjbfaapbhppaaDoor
open Go Go.Ip Go.RowKit G

/-- A slice of bytes that came in, as the interpreter's heap holds it: the first object. -/
def Arg (h : PHeap) (p : PV) (xs : List Int) : Prop :=
  (∀ h', Keep 1 h h' → IntSl .u8 h' p xs) ∧ 1 ≤ h.length ∧ (∀ id off len, p = .sl id off len → 0 < len → id = 0 ∧ eszAt h id = 1) ∧ ∀ b ∈ xs, 0 ≤ b ∧ b ≤ 255

theorem arg_of {w : World} {a : Option Addr} {len cap : Nat} {zs : List Int}
    (h : (a = none ∧ len = 0 ∧ cap = 0 ∧ zs = []) ∨ ∃ x, a = some x ∧ len ≤ cap ∧ cap ≤ maxLen ∧ zs.length = cap ∧ (∀ i, i < zs.length → w.cell? (x.add i) = some (.int .u8 (zs.getD i 0))) ∧ ∀ n ∈ zs, (Lit.int .u8 n).wf = true) :
    ∃ μ o p, Sim w.heap.size w μ [o] w ∧ rep μ p (.slice a len cap) ∧ Arg [o] p (zs.take len) := by
  obtain ⟨μ, o, p, sim, hr, hs, hlen, hmax, hwf, hobj⟩ := row_arg h
  have hb : ∀ b ∈ zs.take len, 0 ≤ b ∧ b ≤ 255 := by
    intro b hb
    have := hwf b hb
    simp only [Lit.wf, IntKind.has, IntKind.min, IntKind.max, IntKind.signed, IntKind.bits] at this
    simp at this
    omega
  by_cases h0 : len = 0
  · refine ⟨μ, o, p, sim, hr, ?_, Nat.le_refl _, ?_, hb⟩
    · intro h' _
      rcases hs with hs | ⟨id, off, hp, hc⟩
      · exact .inl hs
      · exact .inr ⟨id, off, hp, fun i x hx => by simp [h0] at hx⟩
    · intro id off l hp hl
      subst hp
      obtain ⟨_, _, _, _, e, _⟩ := rep_sl hr
      cases e
      omega
  · rcases hs with ⟨_, hs⟩ | ⟨id, off, hp, hc⟩
    · rw [hs] at hlen; simp at hlen; omega
    · have hlt : 0 < (zs.take len).length := by omega
      have hid : id = 0 := by
        have := lt_of_cell (hc 0 _ (List.getElem?_eq_getElem hlt))
        simp at this
        exact this
      subst hid
      refine ⟨μ, o, p, sim, hr, ?_, Nat.le_refl _, ?_, hb⟩
      · intro h' hk
        exact .inr ⟨0, off, hp, fun i x hx => by rw [cellsAt_keep hk (by omega)]; exact hc i x hx⟩
      · intro id' off' l hp' hl
        rw [hp] at hp'
        cases hp'
        refine ⟨rfl, ?_⟩
        rcases hobj with rfl | ⟨c, rfl⟩
        · have := hc 0 _ (List.getElem?_eq_getElem hlt)
          simp [cellsAt, PObj.get] at this
        · rfl

theorem fa0 (id off : Nat) : fieldAddrP Tryd.prog 62 (.ptr id off) 0 = some (.ptr id (off + 0)) := by kernel_rfl
theorem fa1 (id off : Nat) : fieldAddrP Tryd.prog 62 (.ptr id off) 1 = some (.ptr id (off + 1)) := by kernel_rfl
theorem tyB : Tryd.prog.underlying 22 = some (.slice 5) := by kernel_rfl
theorem tyBSize : sizeT Tryd.prog 5 = some 1 := by kernel_rfl
theorem tyBAgg : isAggT Tryd.prog 5 = some false := by kernel_rfl
theorem tyBsAgg : isAggT Tryd.prog 22 = some false := by kernel_rfl
theorem tyBElem : elemT Tryd.prog 22 = some 5 := by kernel_rfl
theorem conv_byte (k : IntKind) (x : Int) : convP Tryd.prog 5 3 (.int k x) = some (.int .i64 (IntKind.i64.wrap x)) := by kernel_rfl
theorem build_sl (a b c : Nat) : buildP Tryd.prog 62 [(0, .sl a b c)] = some (.agg [.sl a b c, .int .i64 0]) := by kernel_rfl
theorem build_nil : buildP Tryd.prog 62 [(0, .nilsl)] = some (.agg [.nilsl, .int .i64 0]) := by kernel_rfl

/-- The reader: object id, over a code of at most 2000 bytes, at most m picks behind. -/
def Rd (h : PHeap) (id m : Nat) : Prop :=
  ∃ bp bs pos, h[id]? = some (.own 1 [bp, .int .i64 pos]) ∧ (∀ h', Keep id h h' → IntSl .u8 h' bp bs) ∧ (∀ b ∈ bs, (0 : Int) ≤ b ∧ b ≤ 255) ∧ bs.length ≤ 2000 ∧ 0 ≤ pos ∧ pos ≤ (m : Int)

theorem Rd.keep {h h' : PHeap} {id m n : Nat} (r : Rd h id m) (hk : Keep n h h') (hn : id < n) : Rd h' id m := by
  obtain ⟨bp, bs, pos, h1, h2, rest⟩ := r
  exact ⟨bp, bs, pos, by rw [hk.2 id hn]; exact h1, fun h3 hk3 => h2 h3 ((hk.mono (by omega)).trans hk3), rest⟩

theorem Rd.lt {h : PHeap} {id m : Nat} (r : Rd h id m) : id < h.length := by
  obtain ⟨bp, bs, pos, h1, _⟩ := r
  exact (List.getElem?_eq_some_iff.1 h1).1

theorem xor_small {a b : Int} (ha : 0 ≤ a) (ha' : a < 4611686018427387904) (hb : 0 ≤ b) (hb' : b < 4611686018427387904) :
    0 ≤ IntKind.i64.wrap ((BitVec.ofInt IntKind.i64.bits a ^^^ BitVec.ofInt IntKind.i64.bits b).toNat : Int) := by
  obtain ⟨x, rfl⟩ := Int.eq_ofNat_of_zero_le ha
  obtain ⟨y, rfl⟩ := Int.eq_ofNat_of_zero_le hb
  have hx : x < 2 ^ 62 := by omega
  have hy : y < 2 ^ 62 := by omega
  have hz : x ^^^ y < 2 ^ 62 := Nat.xor_lt_two_pow hx hy
  have e : (BitVec.ofInt IntKind.i64.bits (x : Int) ^^^ BitVec.ofInt IntKind.i64.bits (y : Int)).toNat = x ^^^ y := by
    have hbits : IntKind.i64.bits = 64 := rfl
    rw [BitVec.toNat_xor, BitVec.toNat_ofInt, BitVec.toNat_ofInt, hbits]
    congr 1 <;> omega
  rw [e, wr (by omega)]
  omega

variable (g : Nat → PV) (lf n : Nat)

theorem open_calls {p : PV} {xs : List Int} {h : PHeap} (N : Nat) (hN : 1 ≤ N) (ha : Arg h p xs) :
    ∃ h', CL g lf N fn_spec_l20Open [p] h = some (.ptr h.length 0, h') ∧ Rd h' h.length 0 ∧ Keep h.length h h' := by
  obtain ⟨n, rfl⟩ : ∃ n, N = n + 1 := ⟨N - 1, by omega⟩
  rw [spec_l20Open.call_eq]
  obtain ⟨hs, hlen, hesz, hb⟩ := ha
  have hs0 := hs h (Keep.refl _ _)
  have hlenp : lenP Tryd.prog 22 p = some (.int .i64 xs.length) := hs0.len tyB
  by_cases hbig : (2000 : Int) < (xs.length : Int)
  · rcases hs0 with ⟨_, rfl⟩ | ⟨id, off, rfl, hc⟩
    · simp at hbig
    · obtain ⟨rfl, he⟩ := hesz id off xs.length rfl (by omega)
      have hsl : sliceP Tryd.prog 22 (.sl 0 off xs.length) none (some (.int .i64 2000)) h = some (.sl 0 off 2000) := by
        have : (2000 : Int) ≤ (xs.length : Int) := by omega
        simp [sliceP, tyBElem, tyBSize, he, boundP, this]
      refine ⟨h ++ [.own 1 [.sl 0 off 2000, .int .i64 0]], ?_, ?_, Keep.append _ _ _ (Nat.le_refl _)⟩
      · simp [spec_l20Open.main, hlenp, hbig, hsl, build_sl, boxP, PV.cells, PV.oneCell]
      · refine ⟨.sl 0 off 2000, xs.take 2000, 0, by simp, fun h' hk => ?_, fun b hb' => hb b (List.mem_of_mem_take hb'), by simp; omega, by omega, by omega⟩
        have hk' : Keep 1 h h' := ((Keep.append h.length h _ (Nat.le_refl _)).mono hlen).trans (hk.mono hlen)
        rcases hs h' hk' with ⟨hx, _⟩ | ⟨id', off', hx, hc'⟩
        · cases hx
        · cases hx
          refine .inr ⟨0, off, by simp; omega, fun i x hi => ?_⟩
          rw [List.getElem?_take] at hi
          split at hi
          · exact hc' i x hi
          · cases hi
  · refine ⟨h ++ [.own 1 [p, .int .i64 0]], ?_, ?_, Keep.append _ _ _ (Nat.le_refl _)⟩
    · rcases hs0 with ⟨rfl, rfl⟩ | ⟨id, off, rfl, hc⟩
      · simp [spec_l20Open.main, hlenp, build_nil, boxP, PV.cells, PV.oneCell]
      · simp [spec_l20Open.main, hlenp, hbig, build_sl, boxP, PV.cells, PV.oneCell]
    · exact ⟨p, xs, 0, by simp, fun h' hk => hs h' (((Keep.append h.length h _ (Nat.le_refl _)).mono hlen).trans (hk.mono hlen)), hb, by omega, by omega, by omega⟩

end Go.Proofs.YtfgjbfaapbhppaaDoor

/- What a pick and a chance come to. -/
namespace Go.Proofs.YtfgjbfaapbhppaaDoor
open Go Go.Ip Go.RowKit G

variable (g : Nat → PV) (lf n : Nat)

theorem tmod_range {x k : Int} (hx : 0 ≤ x) (hk : 1 ≤ k) : 0 ≤ x.tmod k ∧ x.tmod k < k := by
  rw [Int.tmod_eq_emod_of_nonneg hx]
  exact ⟨Int.emod_nonneg _ (by omega), Int.emod_lt_of_pos _ (by omega)⟩

theorem tdiv_range {x k : Int} (hx : 0 ≤ x) (hk : 1 ≤ k) : 0 ≤ x.tdiv k ∧ x.tdiv k ≤ x := by
  rw [Int.tdiv_eq_ediv_of_nonneg hx]
  exact ⟨Int.ediv_nonneg hx (by omega), Int.ediv_le_self _ hx⟩

theorem bd {α β : Type} {x : Option α} {v : α} {f : α → Option β} {r : Option β} (hx : x = some v) (hf : f v = r) : x.bind f = r := by rw [hx]; exact hf
theorem cdT {x y r : Res} (h : x = r) : condP (.bool true) x y = r := h
theorem cdF {x y r : Res} (h : y = r) : condP (.bool false) x y = r := h
theorem bifT {α : Type} {x y : α} : (bif true then x else y) = x := rfl

/-- A pick of n: some number from 0 on, below n; the reader has gone on by one. -/
theorem pick_calls {h : PHeap} {id m : Nat} (N : Nat) (hN : 1 ≤ N) (k : Int) (hr : Rd h id m) (hm : m ≤ 1000000) (hk : k ≤ 1000000) :
    ∃ (v : Int) (h' : PHeap), CL g lf N fn_spec_l20Rd_pick [.ptr id 0, .int .i64 k] h = some (.int .i64 v, h') ∧ Rd h' id (m + 1) ∧ Only id (id + 1) h h' ∧ 0 ≤ v ∧ (1 ≤ k → v < k) ∧ (k < 1 → v = 0) := by
  obtain ⟨n, rfl⟩ : ∃ n, N = n + 1 := ⟨N - 1, by omega⟩
  rw [spec_l20Rd_pick.call_eq]
  obtain ⟨bp, bs, pos, ho, hs, hb, hl, hp0, hpm⟩ := hr
  have hid : id < h.length := (List.getElem?_eq_some_iff.1 ho).1
  have w1 : IntKind.i64.wrap (pos + 1) = pos + 1 := wr (by omega)
  have hld : loadP Tryd.prog 3 (.ptr id (0 + 1)) h = some (.int .i64 pos) := by simp [loadP, tyAgg, cellsAt, ho, PObj.get]
  obtain ⟨h7, hh7⟩ : ∃ h7, h7 = h.set id (.own 1 [bp, .int .i64 (pos + 1)]) := ⟨_, rfl⟩
  have hst : storeP Tryd.prog 3 (.ptr id (0 + 1)) (.int .i64 (pos + 1)) h = some h7 := by
    rw [hh7]
    simp [storeP, ho, PV.cells, tySize, setCells]
  have ho7 : h7[id]? = some (.own 1 [bp, .int .i64 (pos + 1)]) := by rw [hh7, List.getElem?_set_self hid]
  have hk7 : Keep id h h7 := by rw [hh7]; exact Keep.set _ _ _ _ (Nat.le_refl _)
  have hon : Only id (id + 1) h h7 := by rw [hh7]; exact ⟨by simp, fun j hj => List.getElem?_set_ne (by omega)⟩
  have hrd : Rd h7 id (m + 1) := ⟨bp, bs, pos + 1, ho7, fun h' hk' => hs h' (hk7.trans hk'), hb, hl, by omega, by push_cast; omega⟩
  have hl1 : loadP Tryd.prog 3 (.ptr id (0 + 1)) h7 = some (.int .i64 (pos + 1)) := by simp [loadP, tyAgg, cellsAt, ho7, PObj.get]
  have hl0 : loadP Tryd.prog 22 (.ptr id (0 + 0)) h7 = some bp := by simp [loadP, tyBsAgg, cellsAt, ho7, PObj.get]
  have hs7 := hs h7 hk7
  have hlen : lenP Tryd.prog 22 bp = some (.int .i64 bs.length) := hs7.len tyB
  have w2 : IntKind.i64.wrap (pos + 1 - 1) = pos := by rw [show pos + 1 - 1 = pos by omega]; exact wr (by omega)
  by_cases hk1 : k < 1
  · refine ⟨0, h7, ?_, hrd, hon, by omega, by omega, fun _ => rfl⟩
    have f_add : binP Tryd.prog .add 3 (.int .i64 pos) (.int .i64 1) = some (.int .i64 (pos + 1)) := by rw [bin_add, w1]
    have f_lss : binP Tryd.prog .lss 3 (.int .i64 k) (.int .i64 1) = some (.bool true) := by rw [bin_lss, decide_eq_true hk1]
    unfold spec_l20Rd_pick.main
    refine bd ptr_ptr (bd (fa1 _ _) (bd hld (bd f_add (bd ptr_ptr (bd (fa1 _ _) (bd hst (bd f_lss ?_)))))))
    refine bd (want_bool (x := true) (y := false)) (bd (v := (PV.tup [], h7)) rfl ?_)
    refine bd (want_bool (x := true) (y := false)) (bd (v := (PV.tup [], h7)) rfl ?_)
    refine bd (want_bool (x := true) (y := false)) (bd (v := (PV.tup [], h7)) rfl ?_)
    refine bd (want_bool (x := true) (y := false)) (bd (v := (PV.tup [], h7)) rfl ?_)
    refine bd (want_bool (x := true) (y := false)) (bd (v := (PV.tup [], h7)) rfl ?_)
    refine bd (want_bool (x := true) (y := false)) (bd (v := (PV.tup [], h7)) rfl ?_)
    refine bd (v := PV.bool true) rfl (cdT ?_)
    exact bd res_int rfl
  · have hk1' : 1 ≤ k := by omega
    by_cases hb0 : bs.length = 0
    · refine ⟨0, h7, ?_, hrd, hon, by omega, by omega, by omega⟩
      have f_add : binP Tryd.prog .add 3 (.int .i64 pos) (.int .i64 1) = some (.int .i64 (pos + 1)) := by rw [bin_add, w1]
      have f_lss : binP Tryd.prog .lss 3 (.int .i64 k) (.int .i64 1) = some (.bool false) := by rw [bin_lss, decide_eq_false hk1]
      have f_eql : binP Tryd.prog .eql 3 (.int .i64 (bs.length : Int)) (.int .i64 0) = some (.bool true) := by rw [bin_eql, hb0]; rfl
      unfold spec_l20Rd_pick.main
      refine bd ptr_ptr (bd (fa1 _ _) (bd hld (bd f_add (bd ptr_ptr (bd (fa1 _ _) (bd hst (bd f_lss ?_)))))))
      refine bd (want_bool (x := false) (y := false)) (bd (v := (PV.ptr id 0, h7)) rfl ?_)
      refine bd (want_bool (x := false) (y := false)) (bd (v := (PV.ptr id 0, h7)) rfl ?_)
      refine bd (want_bool (x := false) (y := false)) (bd (v := (PV.ptr id (0 + 0), h7)) (congrArg (pv h7) (fa0 id 0)) ?_)
      refine bd (want_bool (x := false) (y := false)) (bd (v := (bp, h7)) (congrArg (pv h7) hl0) ?_)
      refine bd (want_bool (x := false) (y := false)) (bd (v := (PV.int .i64 (bs.length : Int), h7)) (congrArg (pv h7) hlen) ?_)
      refine bd (want_bool (x := false) (y := false)) (bd (v := (PV.bool true, h7)) (congrArg (pv h7) f_eql) ?_)
      refine bd (v := PV.bool true) rfl (cdT ?_)
      exact bd res_int rfl
    · have hb1 : 1 ≤ (bs.length : Int) := by omega
      have hne : ((bs.length : Int) == 0) = false := beq_eq_false_iff_ne.2 (by omega)
      obtain ⟨P, hP⟩ := Int.eq_ofNat_of_zero_le hp0
      subst hP
      have byte : ∀ (j : Nat) (hj : j < bs.length), ∃ a, indexAddrP Tryd.prog 22 bp (.int .i64 j) = some a ∧ loadP Tryd.prog 5 a h7 = some (.int .u8 bs[j]) ∧ 0 ≤ bs[j] ∧ bs[j] ≤ 255 ∧ IntKind.i64.wrap bs[j] = bs[j] := by
        intro j hj
        obtain ⟨a, h1, h2⟩ := hs7.at tyB tyBSize tyBAgg hj
        have := hb _ (List.getElem_mem hj)
        exact ⟨a, h1, h2, this.1, this.2, wr (by omega)⟩
      by_cases hlt : (P : Int) < (bs.length : Int)
      · obtain ⟨a, ha, hla, hb2, hb3, hw⟩ := byte P (by omega)
        have hr := tmod_range hb2 hk1'
        refine ⟨bs[P].tmod k, h7, ?_, hrd, hon, hr.1, fun _ => hr.2, by omega⟩
        have hrem := bin_rem (P := Tryd.prog) (t := 3) (k := .i64) (a := bs[P]) (show k ≠ 0 by omega)
        have f_add : binP Tryd.prog .add 3 (.int .i64 (P : Int)) (.int .i64 1) = some (.int .i64 ((P : Int) + 1)) := by rw [bin_add, w1]
        have f_lss : binP Tryd.prog .lss 3 (.int .i64 k) (.int .i64 1) = some (.bool false) := by rw [bin_lss, decide_eq_false hk1]
        have f_eql : binP Tryd.prog .eql 3 (.int .i64 (bs.length : Int)) (.int .i64 0) = some (.bool false) := by rw [bin_eql, hne]
        have f_sub : binP Tryd.prog .sub 3 (.int .i64 ((P : Int) + 1)) (.int .i64 1) = some (.int .i64 (P : Int)) := by rw [bin_sub, w2]
        have f_lt : binP Tryd.prog .lss 3 (.int .i64 (P : Int)) (.int .i64 (bs.length : Int)) = some (.bool true) := by rw [bin_lss, decide_eq_true hlt]
        have f_conv : convP Tryd.prog 5 3 (.int .u8 bs[P]) = some (.int .i64 bs[P]) := by rw [conv_byte, hw]
        unfold spec_l20Rd_pick.main
        refine bd ptr_ptr (bd (fa1 _ _) (bd hld (bd f_add (bd ptr_ptr (bd (fa1 _ _) (bd hst (bd f_lss ?_)))))))
        refine bd (want_bool (x := false) (y := false)) (bd (v := (PV.ptr id 0, h7)) rfl ?_)
        refine bd (want_bool (x := false) (y := false)) (bd (v := (PV.ptr id 0, h7)) rfl ?_)
        refine bd (want_bool (x := false) (y := false)) (bd (v := (PV.ptr id (0 + 0), h7)) (congrArg (pv h7) (fa0 id 0)) ?_)
        refine bd (want_bool (x := false) (y := false)) (bd (v := (bp, h7)) (congrArg (pv h7) hl0) ?_)
        refine bd (want_bool (x := false) (y := false)) (bd (v := (PV.int .i64 (bs.length : Int), h7)) (congrArg (pv h7) hlen) ?_)
        refine bd (want_bool (x := false) (y := false)) (bd (v := (PV.bool false, h7)) (congrArg (pv h7) f_eql) ?_)
        refine bd (v := PV.bool false) rfl (cdF ?_)
        refine bd ptr_ptr (bd (fa1 _ _) (bd hl1 (bd f_sub (bd ptr_ptr (bd (fa0 _ _) (bd hl0 (bd hlen (bd f_lt (cdT ?_)))))))))
        refine bd ptr_ptr (bd (fa0 _ _) (bd hl0 (bd ha (bd hla (bd f_conv (bd hrem (bd res_int rfl)))))))
      · -- past its end
        have hr1 := tmod_range (x := (P : Int)) (k := (bs.length : Int)) (by omega) hb1
        obtain ⟨i1, hi1⟩ : ∃ i : Nat, (P : Int).tmod (bs.length : Int) = i := ⟨((P : Int).tmod bs.length).toNat, by omega⟩
        have hr2 := tmod_range (x := (P : Int) * 7 + 3) (k := (bs.length : Int)) (by omega) hb1
        obtain ⟨i2, hi2⟩ : ∃ i : Nat, ((P : Int) * 7 + 3).tmod (bs.length : Int) = i := ⟨(((P : Int) * 7 + 3).tmod bs.length).toNat, by omega⟩
        obtain ⟨a1, ha1, hla1, c1, c2, hw1⟩ := byte i1 (by omega)
        obtain ⟨a2, ha2, hla2, d1, d2, hw2⟩ := byte i2 (by omega)
        obtain ⟨b1, hb1'⟩ : ∃ b, b = bs[i1]'(by omega) := ⟨_, rfl⟩
        obtain ⟨b2, hb2'⟩ : ∃ b, b = bs[i2]'(by omega) := ⟨_, rfl⟩
        rw [← hb1'] at hla1 c1 c2 hw1
        rw [← hb2'] at hla2 d1 d2 hw2
        have hq := tdiv_range (x := (P : Int)) (k := (bs.length : Int)) (by omega) hb1
        have hquo := bin_quo (P := Tryd.prog) (t := 3) (k := .i64) (a := (P : Int)) (show (bs.length : Int) ≠ 0 by omega)
        have hrem1 := bin_rem (P := Tryd.prog) (t := 3) (k := .i64) (a := (P : Int)) (show (bs.length : Int) ≠ 0 by omega)
        have hrem2 := bin_rem (P := Tryd.prog) (t := 3) (k := .i64) (a := (P : Int) * 7 + 3) (show (bs.length : Int) ≠ 0 by omega)
        obtain ⟨q, hq'⟩ : ∃ q, q = (P : Int).tdiv (bs.length : Int) := ⟨_, rfl⟩
        rw [← hq'] at hq hquo
        have u1 : IntKind.i64.wrap (b1 * 131) = b1 * 131 := wr (by omega)
        have u2 : IntKind.i64.wrap ((P : Int) * 7) = (P : Int) * 7 := wr (by omega)
        have u3 : IntKind.i64.wrap ((P : Int) * 7 + 3) = (P : Int) * 7 + 3 := wr (by omega)
        have u4 : IntKind.i64.wrap (b2 * 1117) = b2 * 1117 := wr (by omega)
        have u5 : IntKind.i64.wrap (b1 * 131 + b2 * 1117) = b1 * 131 + b2 * 1117 := wr (by omega)
        have u6 : IntKind.i64.wrap ((P : Int) * 29) = (P : Int) * 29 := wr (by omega)
        have u7 : IntKind.i64.wrap (b1 * 131 + b2 * 1117 + (P : Int) * 29) = b1 * 131 + b2 * 1117 + (P : Int) * 29 := wr (by omega)
        have u8 : IntKind.i64.wrap q = q := wr (by omega)
        have u9 : IntKind.i64.wrap (q * 53) = q * 53 := wr (by omega)
        obtain ⟨X, hX⟩ : ∃ X, X = b1 * 131 + b2 * 1117 + (P : Int) * 29 + q * 53 := ⟨_, rfl⟩
        have u10 : IntKind.i64.wrap X = X := wr (by omega)
        have hX0 : 0 ≤ X := by omega
        have hX1 : X < 4611686018427387904 := by omega
        have hXq := tdiv_range (x := X) (k := 64) hX0 (by omega)
        have hquoX := bin_quo (P := Tryd.prog) (t := 3) (k := .i64) (a := X) (show (64 : Int) ≠ 0 by omega)
        obtain ⟨Y, hY⟩ : ∃ Y, Y = X.tdiv 64 := ⟨_, rfl⟩
        rw [← hY] at hXq hquoX
        have u11 : IntKind.i64.wrap Y = Y := wr (by omega)
        obtain ⟨Z, hZ⟩ : ∃ Z, Z = IntKind.i64.wrap ((BitVec.ofInt IntKind.i64.bits X ^^^ BitVec.ofInt IntKind.i64.bits Y).toNat : Int) := ⟨_, rfl⟩
        have hZ0 : 0 ≤ Z := by rw [hZ]; exact xor_small hX0 hX1 hXq.1 (by omega)
        have hxor : binP Tryd.prog .xor 3 (.int .i64 X) (.int .i64 Y) = some (.int .i64 Z) := by rw [hZ]; simp [binP, binI]
        have hremZ := bin_rem (P := Tryd.prog) (t := 3) (k := .i64) (a := Z) (show k ≠ 0 by omega)
        have hrZ := tmod_range hZ0 hk1'
        refine ⟨Z.tmod k, h7, ?_, hrd, hon, hrZ.1, fun _ => hrZ.2, by omega⟩
        have f_add : binP Tryd.prog .add 3 (.int .i64 (P : Int)) (.int .i64 1) = some (.int .i64 ((P : Int) + 1)) := by rw [bin_add, w1]
        have f_lss : binP Tryd.prog .lss 3 (.int .i64 k) (.int .i64 1) = some (.bool false) := by rw [bin_lss, decide_eq_false hk1]
        have f_eql : binP Tryd.prog .eql 3 (.int .i64 (bs.length : Int)) (.int .i64 0) = some (.bool false) := by rw [bin_eql, hne]
        have f_sub : binP Tryd.prog .sub 3 (.int .i64 ((P : Int) + 1)) (.int .i64 1) = some (.int .i64 (P : Int)) := by rw [bin_sub, w2]
        have f_lt : binP Tryd.prog .lss 3 (.int .i64 (P : Int)) (.int .i64 (bs.length : Int)) = some (.bool false) := by rw [bin_lss, decide_eq_false hlt]
        have f_conv1 : convP Tryd.prog 5 3 (.int .u8 b1) = some (.int .i64 b1) := by rw [conv_byte, hw1]
        have f_conv2 : convP Tryd.prog 5 3 (.int .u8 b2) = some (.int .i64 b2) := by rw [conv_byte, hw2]
        have f_rem1 : binP Tryd.prog .rem 3 (.int .i64 (P : Int)) (.int .i64 (bs.length : Int)) = some (.int .i64 (i1 : Int)) := by rw [hrem1, hi1]
        have f_rem2 : binP Tryd.prog .rem 3 (.int .i64 ((P : Int) * 7 + 3)) (.int .i64 (bs.length : Int)) = some (.int .i64 (i2 : Int)) := by rw [hrem2, hi2]
        have f1 : binP Tryd.prog .mul 3 (.int .i64 b1) (.int .i64 131) = some (.int .i64 (b1 * 131)) := by rw [bin_mul, u1]
        have f2 : binP Tryd.prog .mul 3 (.int .i64 (P : Int)) (.int .i64 7) = some (.int .i64 ((P : Int) * 7)) := by rw [bin_mul, u2]
        have f3 : binP Tryd.prog .add 3 (.int .i64 ((P : Int) * 7)) (.int .i64 3) = some (.int .i64 ((P : Int) * 7 + 3)) := by rw [bin_add, u3]
        have f4 : binP Tryd.prog .mul 3 (.int .i64 b2) (.int .i64 1117) = some (.int .i64 (b2 * 1117)) := by rw [bin_mul, u4]
        have f5 : binP Tryd.prog .add 3 (.int .i64 (b1 * 131)) (.int .i64 (b2 * 1117)) = some (.int .i64 (b1 * 131 + b2 * 1117)) := by rw [bin_add, u5]
        have f6 : binP Tryd.prog .mul 3 (.int .i64 (P : Int)) (.int .i64 29) = some (.int .i64 ((P : Int) * 29)) := by rw [bin_mul, u6]
        have f7 : binP Tryd.prog .add 3 (.int .i64 (b1 * 131 + b2 * 1117)) (.int .i64 ((P : Int) * 29)) = some (.int .i64 (b1 * 131 + b2 * 1117 + (P : Int) * 29)) := by rw [bin_add, u7]
        have f8 : binP Tryd.prog .quo 3 (.int .i64 (P : Int)) (.int .i64 (bs.length : Int)) = some (.int .i64 q) := by rw [hquo, u8]
        have f9 : binP Tryd.prog .mul 3 (.int .i64 q) (.int .i64 53) = some (.int .i64 (q * 53)) := by rw [bin_mul, u9]
        have f10 : binP Tryd.prog .add 3 (.int .i64 (b1 * 131 + b2 * 1117 + (P : Int) * 29)) (.int .i64 (q * 53)) = some (.int .i64 X) := by rw [bin_add, ← hX, u10]
        have f11 : binP Tryd.prog .quo 3 (.int .i64 X) (.int .i64 64) = some (.int .i64 Y) := by rw [hquoX, u11]
        clear hX hY hZ u1 u2 u3 u4 u5 u6 u7 u8 u9 u10 u11 hq' hquo hquoX hrem1 hrem2
        unfold spec_l20Rd_pick.main
        refine bd ptr_ptr (bd (fa1 _ _) (bd hld (bd f_add (bd ptr_ptr (bd (fa1 _ _) (bd hst (bd f_lss ?_)))))))
        refine bd (want_bool (x := false) (y := false)) (bd (v := (PV.ptr id 0, h7)) rfl ?_)
        refine bd (want_bool (x := false) (y := false)) (bd (v := (PV.ptr id 0, h7)) rfl ?_)
        refine bd (want_bool (x := false) (y := false)) (bd (v := (PV.ptr id (0 + 0), h7)) (congrArg (pv h7) (fa0 id 0)) ?_)
        refine bd (want_bool (x := false) (y := false)) (bd (v := (bp, h7)) (congrArg (pv h7) hl0) ?_)
        refine bd (want_bool (x := false) (y := false)) (bd (v := (PV.int .i64 (bs.length : Int), h7)) (congrArg (pv h7) hlen) ?_)
        refine bd (want_bool (x := false) (y := false)) (bd (v := (PV.bool false, h7)) (congrArg (pv h7) f_eql) ?_)
        refine bd (v := PV.bool false) rfl (cdF ?_)
        refine bd ptr_ptr (bd (fa1 _ _) (bd hl1 (bd f_sub (bd ptr_ptr (bd (fa0 _ _) (bd hl0 (bd hlen (bd f_lt (cdF ?_)))))))))
        refine bd ptr_ptr (bd (fa0 _ _) (bd hl0 (bd ptr_ptr (bd (fa0 _ _) (bd hl0 (bd hlen (bd f_rem1 (bd ha1 (bd hla1 (bd f_conv1 (bd f1 ?_)))))))))))
        refine bd ptr_ptr (bd (fa0 _ _) (bd hl0 (bd f2 (bd f3 (bd ptr_ptr (bd (fa0 _ _) (bd hl0 (bd hlen (bd f_rem2 (bd ha2 (bd hla2 (bd f_conv2 (bd f4 ?_)))))))))))))
        refine bd f5 (bd f6 (bd f7 (bd ptr_ptr (bd (fa0 _ _) (bd hl0 (bd hlen (bd f8 (bd f9 (bd f10 (bd f11 (bd hxor (bd hremZ (bd res_int rfl)))))))))))))

theorem odd_calls {h : PHeap} {id m : Nat} (N : Nat) (hN : 2 ≤ N) (k : Int) (hr : Rd h id m) (hm : m ≤ 1000000) (hk : k ≤ 1000000) (hk0 : 1 ≤ k) :
    ∃ (b : Bool) (h' : PHeap), CL g lf N fn_spec_l20Rd_odd [.ptr id 0, .int .i64 k] h = some (.bool b, h') ∧ Rd h' id (m + 1) ∧ Only id (id + 1) h h' := by
  obtain ⟨n, rfl⟩ : ∃ n, N = n + 1 := ⟨N - 1, by omega⟩
  rw [spec_l20Rd_odd.call_eq]
  obtain ⟨v, h', e, hr', ho, _⟩ := pick_calls g lf n (by omega) k hr hm hk
  have hpos : (0 : Int) < k := by omega
  have w1 : IntKind.i64.wrap (k - 1) = k - 1 := wr (by omega)
  refine ⟨v == k - 1, h', ?_, hr', ho⟩
  simp [spec_l20Rd_odd.main, hpos, e, w1]

end Go.Proofs.YtfgjbfaapbhppaaDoor

/- The board that the model draws: small numbers, whatever they are. -/
namespace Go.Proofs.YtfgjbfaapbhppaaDoor
open Go Go.Ip Go.RowKit G

/-- Below n nothing has turned but the object id. -/
def KeepX (id n : Nat) (h h' : PHeap) : Prop := h.length ≤ h'.length ∧ ∀ i, i < n → i ≠ id → h'[i]? = h[i]?

theorem KeepX.refl (id n : Nat) (h : PHeap) : KeepX id n h h := ⟨Nat.le_refl _, fun _ _ _ => rfl⟩
theorem KeepX.trans {id n : Nat} {a b c : PHeap} (h : KeepX id n a b) (k : KeepX id n b c) : KeepX id n a c := ⟨Nat.le_trans h.1 k.1, fun i hi hn => (k.2 i hi hn).trans (h.2 i hi hn)⟩
theorem KeepX.mono {id n m : Nat} {a b : PHeap} (h : KeepX id n a b) (hm : m ≤ n) : KeepX id m a b := ⟨h.1, fun i hi hn => h.2 i (by omega) hn⟩
theorem Keep.x {id n : Nat} {a b : PHeap} (h : Keep n a b) : KeepX id n a b := ⟨h.1, fun i hi _ => h.2 i hi⟩
theorem Only.x {id n : Nat} {a b : PHeap} (h : Only id (id + 1) a b) : KeepX id n a b := ⟨by rw [h.1]; exact Nat.le_refl _, fun i _ hn => h.2 i (by omega)⟩
theorem KeepX.keep {id n : Nat} {a b : PHeap} (h : KeepX id n a b) (hn : id ≤ n) : Keep id a b := ⟨h.1, fun i hi => h.2 i (by omega) (by omega)⟩

theorem OwnSl.keepX {id n m : Nat} {h h' : PHeap} {p : PV} {xs : List Int} (s : OwnSl n h p xs) (hk : KeepX id m h h') (hn : id < n) (hm : h.length ≤ m) : OwnSl n h' p xs := by
  rcases s with s | ⟨i, h1, h2, h3⟩
  · exact .inl s
  · have := (List.getElem?_eq_some_iff.1 h3).1
    exact .inr ⟨i, h1, h2, by rw [hk.2 i (by omega) (by omega)]; exact h3⟩

theorem lit2 (h E : PHeap) (a b : Int) : buildSliceP Tryd.prog 23 2 [(0, .int .i64 a), (1, .int .i64 b)] (h ++ E) = some (.sl (h.length + E.length) 0 2, h ++ (E ++ [.own 1 [.int .i64 a, .int .i64 b]])) := by
  simp [buildSliceP, tyElem, tySize, tyZero, repeatCells, fillP, PV.cells, setCells]

theorem tyBox : elemT Tryd.prog 82 = some 23 := by kernel_rfl
theorem tyBoxU : Tryd.prog.underlying 82 = some (.slice 23) := by kernel_rfl
theorem tyBoxSize : sizeT Tryd.prog 23 = some 1 := by kernel_rfl
theorem tyBoxAgg : isAggT Tryd.prog 23 = some false := by kernel_rfl

theorem lit13 (h : PHeap) (a0 a1 a2 a3 a4 a5 a6 a7 a8 a9 a10 a11 a12 : Nat) : buildSliceP Tryd.prog 82 13 [(0, .sl a0 0 2), (1, .sl a1 0 2), (2, .sl a2 0 2), (3, .sl a3 0 2), (4, .sl a4 0 2), (5, .sl a5 0 2), (6, .sl a6 0 2), (7, .sl a7 0 2), (8, .sl a8 0 2), (9, .sl a9 0 2), (10, .sl a10 0 2), (11, .sl a11 0 2), (12, .sl a12 0 2)] h = some (.sl h.length 0 13, h ++ [.own 1 [.sl a0 0 2, .sl a1 0 2, .sl a2 0 2, .sl a3 0 2, .sl a4 0 2, .sl a5 0 2, .sl a6 0 2, .sl a7 0 2, .sl a8 0 2, .sl a9 0 2, .sl a10 0 2, .sl a11 0 2, .sl a12 0 2]]) := by kernel_rfl
theorem lit5 (h : PHeap) (a0 a1 a2 a3 a4 : Nat) : buildSliceP Tryd.prog 82 5 [(0, .sl a0 0 2), (1, .sl a1 0 2), (2, .sl a2 0 2), (3, .sl a3 0 2), (4, .sl a4 0 2)] h = some (.sl h.length 0 5, h ++ [.own 1 [.sl a0 0 2, .sl a1 0 2, .sl a2 0 2, .sl a3 0 2, .sl a4 0 2]]) := by kernel_rfl

def boardObjs (L : Nat) : List PObj := [.own 1 [.int .i64 1, .int .i64 1], .own 1 [.int .i64 1, .int .i64 2], .own 1 [.int .i64 2, .int .i64 1], .own 1 [.int .i64 2, .int .i64 2], .own 1 [.int .i64 2, .int .i64 3], .own 1 [.int .i64 3, .int .i64 2], .own 1 [.int .i64 3, .int .i64 3], .own 1 [.int .i64 2, .int .i64 4], .own 1 [.int .i64 4, .int .i64 2], .own 1 [.int .i64 1, .int .i64 4], .own 1 [.int .i64 2, .int .i64 2], .own 1 [.int .i64 2, .int .i64 3], .own 1 [.int .i64 3, .int .i64 2]] ++ [.own 1 [.sl (L + 0) 0 2, .sl (L + 1) 0 2, .sl (L + 2) 0 2, .sl (L + 3) 0 2, .sl (L + 4) 0 2, .sl (L + 5) 0 2, .sl (L + 6) 0 2, .sl (L + 7) 0 2, .sl (L + 8) 0 2, .sl (L + 9) 0 2, .sl (L + 10) 0 2, .sl (L + 11) 0 2, .sl (L + 12) 0 2]]

/-- The row v of the table, in whatever heap that holds the table still. -/
theorem board_row (h h' : PHeap) (id : Nat) (hid : id < h.length) (hk : KeepX id (h.length + 14) (h ++ boardObjs h.length) h') (v : Nat) (hv : v < 13) :
    ∃ r c, loadP Tryd.prog 23 (.ptr (h.length + 13) (0 + v)) h' = some (.sl (h.length + v) 0 2) ∧ cellsAt h' (h.length + v) = [.int .i64 r, .int .i64 c] ∧ -1 ≤ r ∧ r ≤ 5 ∧ -1 ≤ c ∧ c ≤ 5 := by
  have hb : h'[h.length + 13]? = some (.own 1 [.sl (h.length + 0) 0 2, .sl (h.length + 1) 0 2, .sl (h.length + 2) 0 2, .sl (h.length + 3) 0 2, .sl (h.length + 4) 0 2, .sl (h.length + 5) 0 2, .sl (h.length + 6) 0 2, .sl (h.length + 7) 0 2, .sl (h.length + 8) 0 2, .sl (h.length + 9) 0 2, .sl (h.length + 10) 0 2, .sl (h.length + 11) 0 2, .sl (h.length + 12) 0 2]) := by
    rw [hk.2 _ (by omega) (by omega), List.getElem?_append_right (by omega), Nat.add_sub_cancel_left]; rfl
  have hs : ∀ j, j < 13 → h'[h.length + j]? = (boardObjs h.length)[j]? := fun j hj => by
    rw [hk.2 _ (by omega) (by omega), List.getElem?_append_right (by omega), Nat.add_sub_cancel_left]
  have hrow := hs v (by omega)
  simp only [loadP, tyBoxAgg, cellsAt, hb, hrow]
  have : v = 0 ∨ v = 1 ∨ v = 2 ∨ v = 3 ∨ v = 4 ∨ v = 5 ∨ v = 6 ∨ v = 7 ∨ v = 8 ∨ v = 9 ∨ v = 10 ∨ v = 11 ∨ v = 12 := by omega
  rcases this with rfl | rfl | rfl | rfl | rfl | rfl | rfl | rfl | rfl | rfl | rfl | rfl | rfl <;> exact ⟨_, _, rfl, rfl, by omega, by omega, by omega, by omega⟩

def noneObjs (L : Nat) : List PObj := [.own 1 [.int .i64 0, .int .i64 2], .own 1 [.int .i64 3, .int .i64 4], .own 1 [.int .i64 5, .int .i64 1], .own 1 [.int .i64 2, .int .i64 (-1)], .own 1 [.int .i64 1, .int .i64 5]] ++ [.own 1 [.sl (L + 0) 0 2, .sl (L + 1) 0 2, .sl (L + 2) 0 2, .sl (L + 3) 0 2, .sl (L + 4) 0 2]]

/-- The row v of the table, in whatever heap that holds the table still. -/
theorem none_row (h h' : PHeap) (id : Nat) (hid : id < h.length) (hk : KeepX id (h.length + 6) (h ++ noneObjs h.length) h') (v : Nat) (hv : v < 5) :
    ∃ r c, loadP Tryd.prog 23 (.ptr (h.length + 5) (0 + v)) h' = some (.sl (h.length + v) 0 2) ∧ cellsAt h' (h.length + v) = [.int .i64 r, .int .i64 c] ∧ -1 ≤ r ∧ r ≤ 5 ∧ -1 ≤ c ∧ c ≤ 5 := by
  have hb : h'[h.length + 5]? = some (.own 1 [.sl (h.length + 0) 0 2, .sl (h.length + 1) 0 2, .sl (h.length + 2) 0 2, .sl (h.length + 3) 0 2, .sl (h.length + 4) 0 2]) := by
    rw [hk.2 _ (by omega) (by omega), List.getElem?_append_right (by omega), Nat.add_sub_cancel_left]; rfl
  have hs : ∀ j, j < 5 → h'[h.length + j]? = (noneObjs h.length)[j]? := fun j hj => by
    rw [hk.2 _ (by omega) (by omega), List.getElem?_append_right (by omega), Nat.add_sub_cancel_left]
  have hrow := hs v (by omega)
  simp only [loadP, tyBoxAgg, cellsAt, hb, hrow]
  have : v = 0 ∨ v = 1 ∨ v = 2 ∨ v = 3 ∨ v = 4 := by omega
  rcases this with rfl | rfl | rfl | rfl | rfl <;> exact ⟨_, _, rfl, rfl, by omega, by omega, by omega, by omega⟩

theorem row_get {h : PHeap} {i : Nat} {r c : Int} (hc : cellsAt h i = [.int .i64 r, .int .i64 c]) :
    indexAddrP Tryd.prog 23 (.sl i 0 2) (.int .i64 0) = some (.ptr i 0) ∧ loadP Tryd.prog 3 (.ptr i 0) h = some (.int .i64 r) ∧
    indexAddrP Tryd.prog 23 (.sl i 0 2) (.int .i64 1) = some (.ptr i 1) ∧ loadP Tryd.prog 3 (.ptr i 1) h = some (.int .i64 c) := by
  refine ⟨by simp [indexAddrP, tyS, tySize], ?_, by simp [indexAddrP, tyS, tySize], ?_⟩ <;> simp [loadP, tyAgg, hc]

theorem Rd.mono {h : PHeap} {id m m' : Nat} (r : Rd h id m) (hm : m ≤ m') : Rd h id m' := by
  obtain ⟨bp, bs, pos, h1, h2, h3, h4, h5, h6⟩ := r
  exact ⟨bp, bs, pos, h1, h2, h3, h4, h5, by omega⟩

variable (g : Nat → PV) (lf n : Nat)

set_option maxHeartbeats 1000000 in
theorem board_calls {h : PHeap} {id m : Nat} (N : Nat) (hN : 3 ≤ N) (k : Int) (hr : Rd h id m) (hm : m ≤ 900000) (hk : k ≤ 1000000) (hk0 : 1 ≤ k) :
    ∃ (r c : Int) (h' : PHeap), CL g lf N fn_spec_l20Board [.ptr id 0, .int .i64 k] h = some (.tup [.int .i64 r, .int .i64 c], h') ∧ Rd h' id (m + 3) ∧ KeepX id h.length h h' ∧ -1 ≤ r ∧ r ≤ 5 ∧ -1 ≤ c ∧ c ≤ 5 := by
  obtain ⟨n, rfl⟩ : ∃ n, N = n + 1 := ⟨N - 1, by omega⟩
  rw [spec_l20Board.call_eq]
  have hid := hr.lt
  have hrt := hr.keep (Keep.append h.length h (boardObjs h.length) (Nat.le_refl _)) hid
  obtain ⟨v, h1, e1, r1, o1, v0, v1, _⟩ := pick_calls g lf n (by omega) 13 hrt (by omega) (by omega)
  obtain ⟨V, rfl⟩ := Int.eq_ofNat_of_zero_le v0
  have hV : V < 13 := by have := v1 (by omega); omega
  obtain ⟨b, h2, e2, r2, o2⟩ := odd_calls g lf n (by omega) k r1 (by omega) hk hk0
  have kx1 : KeepX id (h.length + 14) (h ++ boardObjs h.length) h1 := o1.x
  have kx2 : KeepX id (h.length + 14) (h ++ boardObjs h.length) h2 := kx1.trans o2.x
  have kxb : KeepX id h.length h h2 := (Keep.append h.length h (boardObjs h.length) (Nat.le_refl _)).x.trans (kx2.mono (by omega))
  obtain ⟨_, _, l1, _⟩ := board_row h h1 id hid kx1 V hV
  obtain ⟨r, c, _, cc, hrc⟩ := board_row h h2 id hid kx2 V hV
  have hix : indexAddrP Tryd.prog 82 (.sl (h.length + 13) 0 13) (.int .i64 (V : Int)) = some (.ptr (h.length + 13) (0 + V)) := by
    have : (V : Int) < 13 := by omega
    simp [indexAddrP, tyBoxU, tyBoxSize, this]
  obtain ⟨g1, g2, g3, g4⟩ := row_get cc
  cases b with
  | false =>
    refine ⟨r, c, h2, ?_, r2.mono (by omega), kxb, hrc⟩
    unfold spec_l20Board.main
    refine bd (v := (PV.sl (h.length + 0) 0 2, h ++ [PObj.own 1 [.int .i64 1, .int .i64 1]])) (by have := lit2 h [] 1 1; simpa using this) ?_
    refine bd (v := (PV.sl (h.length + 1) 0 2, h ++ [PObj.own 1 [.int .i64 1, .int .i64 1], .own 1 [.int .i64 1, .int .i64 2]])) (lit2 h [PObj.own 1 [.int .i64 1, .int .i64 1]] 1 2) ?_
    refine bd (v := (PV.sl (h.length + 2) 0 2, h ++ [PObj.own 1 [.int .i64 1, .int .i64 1], .own 1 [.int .i64 1, .int .i64 2], .own 1 [.int .i64 2, .int .i64 1]])) (lit2 h [PObj.own 1 [.int .i64 1, .int .i64 1], .own 1 [.int .i64 1, .int .i64 2]] 2 1) ?_
    refine bd (v := (PV.sl (h.length + 3) 0 2, h ++ [PObj.own 1 [.int .i64 1, .int .i64 1], .own 1 [.int .i64 1, .int .i64 2], .own 1 [.int .i64 2, .int .i64 1], .own 1 [.int .i64 2, .int .i64 2]])) (lit2 h [PObj.own 1 [.int .i64 1, .int .i64 1], .own 1 [.int .i64 1, .int .i64 2], .own 1 [.int .i64 2, .int .i64 1]] 2 2) ?_
    refine bd (v := (PV.sl (h.length + 4) 0 2, h ++ [PObj.own 1 [.int .i64 1, .int .i64 1], .own 1 [.int .i64 1, .int .i64 2], .own 1 [.int .i64 2, .int .i64 1], .own 1 [.int .i64 2, .int .i64 2], .own 1 [.int .i64 2, .int .i64 3]])) (lit2 h [PObj.own 1 [.int .i64 1, .int .i64 1], .own 1 [.int .i64 1, .int .i64 2], .own 1 [.int .i64 2, .int .i64 1], .own 1 [.int .i64 2, .int .i64 2]] 2 3) ?_
    refine bd (v := (PV.sl (h.length + 5) 0 2, h ++ [PObj.own 1 [.int .i64 1, .int .i64 1], .own 1 [.int .i64 1, .int .i64 2], .own 1 [.int .i64 2, .int .i64 1], .own 1 [.int .i64 2, .int .i64 2], .own 1 [.int .i64 2, .int .i64 3], .own 1 [.int .i64 3, .int .i64 2]])) (lit2 h [PObj.own 1 [.int .i64 1, .int .i64 1], .own 1 [.int .i64 1, .int .i64 2], .own 1 [.int .i64 2, .int .i64 1], .own 1 [.int .i64 2, .int .i64 2], .own 1 [.int .i64 2, .int .i64 3]] 3 2) ?_
    refine bd (v := (PV.sl (h.length + 6) 0 2, h ++ [PObj.own 1 [.int .i64 1, .int .i64 1], .own 1 [.int .i64 1, .int .i64 2], .own 1 [.int .i64 2, .int .i64 1], .own 1 [.int .i64 2, .int .i64 2], .own 1 [.int .i64 2, .int .i64 3], .own 1 [.int .i64 3, .int .i64 2], .own 1 [.int .i64 3, .int .i64 3]])) (lit2 h [PObj.own 1 [.int .i64 1, .int .i64 1], .own 1 [.int .i64 1, .int .i64 2], .own 1 [.int .i64 2, .int .i64 1], .own 1 [.int .i64 2, .int .i64 2], .own 1 [.int .i64 2, .int .i64 3], .own 1 [.int .i64 3, .int .i64 2]] 3 3) ?_
    refine bd (v := (PV.sl (h.length + 7) 0 2, h ++ [PObj.own 1 [.int .i64 1, .int .i64 1], .own 1 [.int .i64 1, .int .i64 2], .own 1 [.int .i64 2, .int .i64 1], .own 1 [.int .i64 2, .int .i64 2], .own 1 [.int .i64 2, .int .i64 3], .own 1 [.int .i64 3, .int .i64 2], .own 1 [.int .i64 3, .int .i64 3], .own 1 [.int .i64 2, .int .i64 4]])) (lit2 h [PObj.own 1 [.int .i64 1, .int .i64 1], .own 1 [.int .i64 1, .int .i64 2], .own 1 [.int .i64 2, .int .i64 1], .own 1 [.int .i64 2, .int .i64 2], .own 1 [.int .i64 2, .int .i64 3], .own 1 [.int .i64 3, .int .i64 2], .own 1 [.int .i64 3, .int .i64 3]] 2 4) ?_
    refine bd (v := (PV.sl (h.length + 8) 0 2, h ++ [PObj.own 1 [.int .i64 1, .int .i64 1], .own 1 [.int .i64 1, .int .i64 2], .own 1 [.int .i64 2, .int .i64 1], .own 1 [.int .i64 2, .int .i64 2], .own 1 [.int .i64 2, .int .i64 3], .own 1 [.int .i64 3, .int .i64 2], .own 1 [.int .i64 3, .int .i64 3], .own 1 [.int .i64 2, .int .i64 4], .own 1 [.int .i64 4, .int .i64 2]])) (lit2 h [PObj.own 1 [.int .i64 1, .int .i64 1], .own 1 [.int .i64 1, .int .i64 2], .own 1 [.int .i64 2, .int .i64 1], .own 1 [.int .i64 2, .int .i64 2], .own 1 [.int .i64 2, .int .i64 3], .own 1 [.int .i64 3, .int .i64 2], .own 1 [.int .i64 3, .int .i64 3], .own 1 [.int .i64 2, .int .i64 4]] 4 2) ?_
    refine bd (v := (PV.sl (h.length + 9) 0 2, h ++ [PObj.own 1 [.int .i64 1, .int .i64 1], .own 1 [.int .i64 1, .int .i64 2], .own 1 [.int .i64 2, .int .i64 1], .own 1 [.int .i64 2, .int .i64 2], .own 1 [.int .i64 2, .int .i64 3], .own 1 [.int .i64 3, .int .i64 2], .own 1 [.int .i64 3, .int .i64 3], .own 1 [.int .i64 2, .int .i64 4], .own 1 [.int .i64 4, .int .i64 2], .own 1 [.int .i64 1, .int .i64 4]])) (lit2 h [PObj.own 1 [.int .i64 1, .int .i64 1], .own 1 [.int .i64 1, .int .i64 2], .own 1 [.int .i64 2, .int .i64 1], .own 1 [.int .i64 2, .int .i64 2], .own 1 [.int .i64 2, .int .i64 3], .own 1 [.int .i64 3, .int .i64 2], .own 1 [.int .i64 3, .int .i64 3], .own 1 [.int .i64 2, .int .i64 4], .own 1 [.int .i64 4, .int .i64 2]] 1 4) ?_
    refine bd (v := (PV.sl (h.length + 10) 0 2, h ++ [PObj.own 1 [.int .i64 1, .int .i64 1], .own 1 [.int .i64 1, .int .i64 2], .own 1 [.int .i64 2, .int .i64 1], .own 1 [.int .i64 2, .int .i64 2], .own 1 [.int .i64 2, .int .i64 3], .own 1 [.int .i64 3, .int .i64 2], .own 1 [.int .i64 3, .int .i64 3], .own 1 [.int .i64 2, .int .i64 4], .own 1 [.int .i64 4, .int .i64 2], .own 1 [.int .i64 1, .int .i64 4], .own 1 [.int .i64 2, .int .i64 2]])) (lit2 h [PObj.own 1 [.int .i64 1, .int .i64 1], .own 1 [.int .i64 1, .int .i64 2], .own 1 [.int .i64 2, .int .i64 1], .own 1 [.int .i64 2, .int .i64 2], .own 1 [.int .i64 2, .int .i64 3], .own 1 [.int .i64 3, .int .i64 2], .own 1 [.int .i64 3, .int .i64 3], .own 1 [.int .i64 2, .int .i64 4], .own 1 [.int .i64 4, .int .i64 2], .own 1 [.int .i64 1, .int .i64 4]] 2 2) ?_
    refine bd (v := (PV.sl (h.length + 11) 0 2, h ++ [PObj.own 1 [.int .i64 1, .int .i64 1], .own 1 [.int .i64 1, .int .i64 2], .own 1 [.int .i64 2, .int .i64 1], .own 1 [.int .i64 2, .int .i64 2], .own 1 [.int .i64 2, .int .i64 3], .own 1 [.int .i64 3, .int .i64 2], .own 1 [.int .i64 3, .int .i64 3], .own 1 [.int .i64 2, .int .i64 4], .own 1 [.int .i64 4, .int .i64 2], .own 1 [.int .i64 1, .int .i64 4], .own 1 [.int .i64 2, .int .i64 2], .own 1 [.int .i64 2, .int .i64 3]])) (lit2 h [PObj.own 1 [.int .i64 1, .int .i64 1], .own 1 [.int .i64 1, .int .i64 2], .own 1 [.int .i64 2, .int .i64 1], .own 1 [.int .i64 2, .int .i64 2], .own 1 [.int .i64 2, .int .i64 3], .own 1 [.int .i64 3, .int .i64 2], .own 1 [.int .i64 3, .int .i64 3], .own 1 [.int .i64 2, .int .i64 4], .own 1 [.int .i64 4, .int .i64 2], .own 1 [.int .i64 1, .int .i64 4], .own 1 [.int .i64 2, .int .i64 2]] 2 3) ?_
    refine bd (v := (PV.sl (h.length + 12) 0 2, h ++ [PObj.own 1 [.int .i64 1, .int .i64 1], .own 1 [.int .i64 1, .int .i64 2], .own 1 [.int .i64 2, .int .i64 1], .own 1 [.int .i64 2, .int .i64 2], .own 1 [.int .i64 2, .int .i64 3], .own 1 [.int .i64 3, .int .i64 2], .own 1 [.int .i64 3, .int .i64 3], .own 1 [.int .i64 2, .int .i64 4], .own 1 [.int .i64 4, .int .i64 2], .own 1 [.int .i64 1, .int .i64 4], .own 1 [.int .i64 2, .int .i64 2], .own 1 [.int .i64 2, .int .i64 3], .own 1 [.int .i64 3, .int .i64 2]])) (lit2 h [PObj.own 1 [.int .i64 1, .int .i64 1], .own 1 [.int .i64 1, .int .i64 2], .own 1 [.int .i64 2, .int .i64 1], .own 1 [.int .i64 2, .int .i64 2], .own 1 [.int .i64 2, .int .i64 3], .own 1 [.int .i64 3, .int .i64 2], .own 1 [.int .i64 3, .int .i64 3], .own 1 [.int .i64 2, .int .i64 4], .own 1 [.int .i64 4, .int .i64 2], .own 1 [.int .i64 1, .int .i64 4], .own 1 [.int .i64 2, .int .i64 2], .own 1 [.int .i64 2, .int .i64 3]] 3 2) ?_
    refine bd (v := (PV.sl (h.length + 13) 0 13, h ++ boardObjs h.length)) ?_ ?_
    · refine (lit13 _ _ _ _ _ _ _ _ _ _ _ _ _ _).trans ?_; simp [boardObjs]
    refine bd e1 (bd hix (bd l1 (bd e2 ?_)))
    refine cdF (bd g1 (bd g2 (bd g3 (bd g4 (bd res_int (bd res_int rfl))))))
  | true =>
    have hid2 := r2.lt
    have hrt3 := r2.keep (Keep.append h2.length h2 (noneObjs h2.length) (Nat.le_refl _)) hid2
    obtain ⟨v', h3, e3, r3, o3, v0', v1', _⟩ := pick_calls g lf n (by omega) 5 hrt3 (by omega) (by omega)
    obtain ⟨V', rfl⟩ := Int.eq_ofNat_of_zero_le v0'
    have hV' : V' < 5 := by have := v1' (by omega); omega
    have kx3 : KeepX id (h2.length + 6) (h2 ++ noneObjs h2.length) h3 := o3.x
    obtain ⟨r', c', l3, cc', hrc'⟩ := none_row h2 h3 id hid2 kx3 V' hV'
    have hix' : indexAddrP Tryd.prog 82 (.sl (h2.length + 5) 0 5) (.int .i64 (V' : Int)) = some (.ptr (h2.length + 5) (0 + V')) := by
      have : (V' : Int) < 5 := by omega
      simp [indexAddrP, tyBoxU, tyBoxSize, this]
    obtain ⟨g1', g2', g3', g4'⟩ := row_get cc'
    have kx4 : KeepX id h.length h h3 := kxb.trans (((Keep.append h2.length h2 (noneObjs h2.length) (Nat.le_refl _)).x.mono kxb.1).trans (kx3.mono (by have := kxb.1; omega)))
    refine ⟨r', c', h3, ?_, r3, kx4, hrc'⟩
    unfold spec_l20Board.main
    refine bd (v := (PV.sl (h.length + 0) 0 2, h ++ [PObj.own 1 [.int .i64 1, .int .i64 1]])) (by have := lit2 h [] 1 1; simpa using this) ?_
    refine bd (v := (PV.sl (h.length + 1) 0 2, h ++ [PObj.own 1 [.int .i64 1, .int .i64 1], .own 1 [.int .i64 1, .int .i64 2]])) (lit2 h [PObj.own 1 [.int .i64 1, .int .i64 1]] 1 2) ?_
    refine bd (v := (PV.sl (h.length + 2) 0 2, h ++ [PObj.own 1 [.int .i64 1, .int .i64 1], .own 1 [.int .i64 1, .int .i64 2], .own 1 [.int .i64 2, .int .i64 1]])) (lit2 h [PObj.own 1 [.int .i64 1, .int .i64 1], .own 1 [.int .i64 1, .int .i64 2]] 2 1) ?_
    refine bd (v := (PV.sl (h.length + 3) 0 2, h ++ [PObj.own 1 [.int .i64 1, .int .i64 1], .own 1 [.int .i64 1, .int .i64 2], .own 1 [.int .i64 2, .int .i64 1], .own 1 [.int .i64 2, .int .i64 2]])) (lit2 h [PObj.own 1 [.int .i64 1, .int .i64 1], .own 1 [.int .i64 1, .int .i64 2], .own 1 [.int .i64 2, .int .i64 1]] 2 2) ?_
    refine bd (v := (PV.sl (h.length + 4) 0 2, h ++ [PObj.own 1 [.int .i64 1, .int .i64 1], .own 1 [.int .i64 1, .int .i64 2], .own 1 [.int .i64 2, .int .i64 1], .own 1 [.int .i64 2, .int .i64 2], .own 1 [.int .i64 2, .int .i64 3]])) (lit2 h [PObj.own 1 [.int .i64 1, .int .i64 1], .own 1 [.int .i64 1, .int .i64 2], .own 1 [.int .i64 2, .int .i64 1], .own 1 [.int .i64 2, .int .i64 2]] 2 3) ?_
    refine bd (v := (PV.sl (h.length + 5) 0 2, h ++ [PObj.own 1 [.int .i64 1, .int .i64 1], .own 1 [.int .i64 1, .int .i64 2], .own 1 [.int .i64 2, .int .i64 1], .own 1 [.int .i64 2, .int .i64 2], .own 1 [.int .i64 2, .int .i64 3], .own 1 [.int .i64 3, .int .i64 2]])) (lit2 h [PObj.own 1 [.int .i64 1, .int .i64 1], .own 1 [.int .i64 1, .int .i64 2], .own 1 [.int .i64 2, .int .i64 1], .own 1 [.int .i64 2, .int .i64 2], .own 1 [.int .i64 2, .int .i64 3]] 3 2) ?_
    refine bd (v := (PV.sl (h.length + 6) 0 2, h ++ [PObj.own 1 [.int .i64 1, .int .i64 1], .own 1 [.int .i64 1, .int .i64 2], .own 1 [.int .i64 2, .int .i64 1], .own 1 [.int .i64 2, .int .i64 2], .own 1 [.int .i64 2, .int .i64 3], .own 1 [.int .i64 3, .int .i64 2], .own 1 [.int .i64 3, .int .i64 3]])) (lit2 h [PObj.own 1 [.int .i64 1, .int .i64 1], .own 1 [.int .i64 1, .int .i64 2], .own 1 [.int .i64 2, .int .i64 1], .own 1 [.int .i64 2, .int .i64 2], .own 1 [.int .i64 2, .int .i64 3], .own 1 [.int .i64 3, .int .i64 2]] 3 3) ?_
    refine bd (v := (PV.sl (h.length + 7) 0 2, h ++ [PObj.own 1 [.int .i64 1, .int .i64 1], .own 1 [.int .i64 1, .int .i64 2], .own 1 [.int .i64 2, .int .i64 1], .own 1 [.int .i64 2, .int .i64 2], .own 1 [.int .i64 2, .int .i64 3], .own 1 [.int .i64 3, .int .i64 2], .own 1 [.int .i64 3, .int .i64 3], .own 1 [.int .i64 2, .int .i64 4]])) (lit2 h [PObj.own 1 [.int .i64 1, .int .i64 1], .own 1 [.int .i64 1, .int .i64 2], .own 1 [.int .i64 2, .int .i64 1], .own 1 [.int .i64 2, .int .i64 2], .own 1 [.int .i64 2, .int .i64 3], .own 1 [.int .i64 3, .int .i64 2], .own 1 [.int .i64 3, .int .i64 3]] 2 4) ?_
    refine bd (v := (PV.sl (h.length + 8) 0 2, h ++ [PObj.own 1 [.int .i64 1, .int .i64 1], .own 1 [.int .i64 1, .int .i64 2], .own 1 [.int .i64 2, .int .i64 1], .own 1 [.int .i64 2, .int .i64 2], .own 1 [.int .i64 2, .int .i64 3], .own 1 [.int .i64 3, .int .i64 2], .own 1 [.int .i64 3, .int .i64 3], .own 1 [.int .i64 2, .int .i64 4], .own 1 [.int .i64 4, .int .i64 2]])) (lit2 h [PObj.own 1 [.int .i64 1, .int .i64 1], .own 1 [.int .i64 1, .int .i64 2], .own 1 [.int .i64 2, .int .i64 1], .own 1 [.int .i64 2, .int .i64 2], .own 1 [.int .i64 2, .int .i64 3], .own 1 [.int .i64 3, .int .i64 2], .own 1 [.int .i64 3, .int .i64 3], .own 1 [.int .i64 2, .int .i64 4]] 4 2) ?_
    refine bd (v := (PV.sl (h.length + 9) 0 2, h ++ [PObj.own 1 [.int .i64 1, .int .i64 1], .own 1 [.int .i64 1, .int .i64 2], .own 1 [.int .i64 2, .int .i64 1], .own 1 [.int .i64 2, .int .i64 2], .own 1 [.int .i64 2, .int .i64 3], .own 1 [.int .i64 3, .int .i64 2], .own 1 [.int .i64 3, .int .i64 3], .own 1 [.int .i64 2, .int .i64 4], .own 1 [.int .i64 4, .int .i64 2], .own 1 [.int .i64 1, .int .i64 4]])) (lit2 h [PObj.own 1 [.int .i64 1, .int .i64 1], .own 1 [.int .i64 1, .int .i64 2], .own 1 [.int .i64 2, .int .i64 1], .own 1 [.int .i64 2, .int .i64 2], .own 1 [.int .i64 2, .int .i64 3], .own 1 [.int .i64 3, .int .i64 2], .own 1 [.int .i64 3, .int .i64 3], .own 1 [.int .i64 2, .int .i64 4], .own 1 [.int .i64 4, .int .i64 2]] 1 4) ?_
    refine bd (v := (PV.sl (h.length + 10) 0 2, h ++ [PObj.own 1 [.int .i64 1, .int .i64 1], .own 1 [.int .i64 1, .int .i64 2], .own 1 [.int .i64 2, .int .i64 1], .own 1 [.int .i64 2, .int .i64 2], .own 1 [.int .i64 2, .int .i64 3], .own 1 [.int .i64 3, .int .i64 2], .own 1 [.int .i64 3, .int .i64 3], .own 1 [.int .i64 2, .int .i64 4], .own 1 [.int .i64 4, .int .i64 2], .own 1 [.int .i64 1, .int .i64 4], .own 1 [.int .i64 2, .int .i64 2]])) (lit2 h [PObj.own 1 [.int .i64 1, .int .i64 1], .own 1 [.int .i64 1, .int .i64 2], .own 1 [.int .i64 2, .int .i64 1], .own 1 [.int .i64 2, .int .i64 2], .own 1 [.int .i64 2, .int .i64 3], .own 1 [.int .i64 3, .int .i64 2], .own 1 [.int .i64 3, .int .i64 3], .own 1 [.int .i64 2, .int .i64 4], .own 1 [.int .i64 4, .int .i64 2], .own 1 [.int .i64 1, .int .i64 4]] 2 2) ?_
    refine bd (v := (PV.sl (h.length + 11) 0 2, h ++ [PObj.own 1 [.int .i64 1, .int .i64 1], .own 1 [.int .i64 1, .int .i64 2], .own 1 [.int .i64 2, .int .i64 1], .own 1 [.int .i64 2, .int .i64 2], .own 1 [.int .i64 2, .int .i64 3], .own 1 [.int .i64 3, .int .i64 2], .own 1 [.int .i64 3, .int .i64 3], .own 1 [.int .i64 2, .int .i64 4], .own 1 [.int .i64 4, .int .i64 2], .own 1 [.int .i64 1, .int .i64 4], .own 1 [.int .i64 2, .int .i64 2], .own 1 [.int .i64 2, .int .i64 3]])) (lit2 h [PObj.own 1 [.int .i64 1, .int .i64 1], .own 1 [.int .i64 1, .int .i64 2], .own 1 [.int .i64 2, .int .i64 1], .own 1 [.int .i64 2, .int .i64 2], .own 1 [.int .i64 2, .int .i64 3], .own 1 [.int .i64 3, .int .i64 2], .own 1 [.int .i64 3, .int .i64 3], .own 1 [.int .i64 2, .int .i64 4], .own 1 [.int .i64 4, .int .i64 2], .own 1 [.int .i64 1, .int .i64 4], .own 1 [.int .i64 2, .int .i64 2]] 2 3) ?_
    refine bd (v := (PV.sl (h.length + 12) 0 2, h ++ [PObj.own 1 [.int .i64 1, .int .i64 1], .own 1 [.int .i64 1, .int .i64 2], .own 1 [.int .i64 2, .int .i64 1], .own 1 [.int .i64 2, .int .i64 2], .own 1 [.int .i64 2, .int .i64 3], .own 1 [.int .i64 3, .int .i64 2], .own 1 [.int .i64 3, .int .i64 3], .own 1 [.int .i64 2, .int .i64 4], .own 1 [.int .i64 4, .int .i64 2], .own 1 [.int .i64 1, .int .i64 4], .own 1 [.int .i64 2, .int .i64 2], .own 1 [.int .i64 2, .int .i64 3], .own 1 [.int .i64 3, .int .i64 2]])) (lit2 h [PObj.own 1 [.int .i64 1, .int .i64 1], .own 1 [.int .i64 1, .int .i64 2], .own 1 [.int .i64 2, .int .i64 1], .own 1 [.int .i64 2, .int .i64 2], .own 1 [.int .i64 2, .int .i64 3], .own 1 [.int .i64 3, .int .i64 2], .own 1 [.int .i64 3, .int .i64 3], .own 1 [.int .i64 2, .int .i64 4], .own 1 [.int .i64 4, .int .i64 2], .own 1 [.int .i64 1, .int .i64 4], .own 1 [.int .i64 2, .int .i64 2], .own 1 [.int .i64 2, .int .i64 3]] 3 2) ?_
    refine bd (v := (PV.sl (h.length + 13) 0 13, h ++ boardObjs h.length)) ?_ ?_
    · refine (lit13 _ _ _ _ _ _ _ _ _ _ _ _ _ _).trans ?_; simp [boardObjs]
    refine bd e1 (bd hix (bd l1 (bd e2 ?_)))
    refine cdT ?_
    refine bd (v := (PV.sl (h2.length + 0) 0 2, h2 ++ [PObj.own 1 [.int .i64 0, .int .i64 2]])) (by have := lit2 h2 [] 0 2; simpa using this) ?_
    refine bd (v := (PV.sl (h2.length + 1) 0 2, h2 ++ [PObj.own 1 [.int .i64 0, .int .i64 2], .own 1 [.int .i64 3, .int .i64 4]])) (lit2 h2 [PObj.own 1 [.int .i64 0, .int .i64 2]] 3 4) ?_
    refine bd (v := (PV.sl (h2.length + 2) 0 2, h2 ++ [PObj.own 1 [.int .i64 0, .int .i64 2], .own 1 [.int .i64 3, .int .i64 4], .own 1 [.int .i64 5, .int .i64 1]])) (lit2 h2 [PObj.own 1 [.int .i64 0, .int .i64 2], .own 1 [.int .i64 3, .int .i64 4]] 5 1) ?_
    refine bd (v := (PV.sl (h2.length + 3) 0 2, h2 ++ [PObj.own 1 [.int .i64 0, .int .i64 2], .own 1 [.int .i64 3, .int .i64 4], .own 1 [.int .i64 5, .int .i64 1], .own 1 [.int .i64 2, .int .i64 (-1)]])) (lit2 h2 [PObj.own 1 [.int .i64 0, .int .i64 2], .own 1 [.int .i64 3, .int .i64 4], .own 1 [.int .i64 5, .int .i64 1]] 2 (-1)) ?_
    refine bd (v := (PV.sl (h2.length + 4) 0 2, h2 ++ [PObj.own 1 [.int .i64 0, .int .i64 2], .own 1 [.int .i64 3, .int .i64 4], .own 1 [.int .i64 5, .int .i64 1], .own 1 [.int .i64 2, .int .i64 (-1)], .own 1 [.int .i64 1, .int .i64 5]])) (lit2 h2 [PObj.own 1 [.int .i64 0, .int .i64 2], .own 1 [.int .i64 3, .int .i64 4], .own 1 [.int .i64 5, .int .i64 1], .own 1 [.int .i64 2, .int .i64 (-1)]] 1 5) ?_
    refine bd (v := (PV.sl (h2.length + 5) 0 5, h2 ++ noneObjs h2.length)) ?_ ?_
    · refine (lit5 _ _ _ _ _ _).trans ?_; simp [noneObjs]
    refine bd e3 (bd hix' (bd l3 ?_))
    exact bd g1' (bd g2' (bd g3' (bd g4' (bd res_int (bd res_int rfl)))))

end Go.Proofs.YtfgjbfaapbhppaaDoor

/- Promise 1: boards are turned. -/
namespace Go.Proofs.YtfgjbfaapbhppaaDoor
open Go Go.Ip Go.RowKit G

variable (g : Nat → PV) (lf n : Nat)

theorem boardB_comm (r c : Int) : boardB c r = boardB r c := by
  unfold boardB
  have : c * r = r * c := Int.mul_comm c r
  rw [this]
  congr 1
  apply propext
  constructor <;> (intro h; omega)

theorem boardOk_N (N : Nat) (hN : 2 ≤ N) (h : PHeap) (r c : Int) : CL g lf N fn_impl_BoardOk [.int .i64 r, .int .i64 c] h = some (.bool (boardB r c), h) := by
  obtain ⟨n, rfl⟩ : ∃ n, N = n + 2 := ⟨N - 2, by omega⟩
  exact boardOk_calls g lf n h r c
theorem specBoardOk_N (N : Nat) (hN : 2 ≤ N) (h : PHeap) (r c : Int) : CL g lf N fn_spec_BoardOk [.int .i64 r, .int .i64 c] h = some (.bool (boardB r c), h) := by
  obtain ⟨n, rfl⟩ : ∃ n, N = n + 2 := ⟨N - 2, by omega⟩
  exact specBoardOk_calls g lf n h r c

end Go.Proofs.YtfgjbfaapbhppaaDoor

/- The position that the model draws: at most ten numbers, whatever they are. -/
namespace Go.Proofs.YtfgjbfaapbhppaaDoor
open Go Go.Ip Go.RowKit G

variable (g : Nat → PV) (lf n : Nat)

theorem mul_bound {r c : Int} (h1 : -1 ≤ r) (h2 : r ≤ 5) (h3 : -1 ≤ c) (h4 : c ≤ 5) : -5 ≤ r * c ∧ r * c ≤ 25 := by
  have : r = -1 ∨ r = 0 ∨ r = 1 ∨ r = 2 ∨ r = 3 ∨ r = 4 ∨ r = 5 := by omega
  rcases this with rfl | rfl | rfl | rfl | rfl | rfl | rfl <;> omega

theorem OwnSl.keepOnly {n id : Nat} {h h' : PHeap} {p : PV} {xs : List Int} (s : OwnSl n h p xs) (hk : Only id (id + 1) h h') (hn : id < n) : OwnSl n h' p xs :=
  s.keepX (m := h.length) hk.x hn (Nat.le_refl _)

theorem pos_loop {id : Nat} {r c k thin : Int} (hr1 : -1 ≤ r) (hr2 : r ≤ 5) (hc1 : -1 ≤ c) (hc2 : c ≤ 5) (hn : 1 ≤ n) : ∀ (m i fuel M : Nat) (q : PV) (xs : List Int) (h : PHeap), i + m = 9 → m < fuel → Rd h id M → M + 2 * m ≤ 900000 → OwnSl (id + 1) h q xs → xs.length = i →
    ∃ i' M' q' xs' h' v, M' ≤ M + 2 * m ∧ Rd h' id M' ∧ OwnSl (id + 1) h' q' xs' ∧ xs'.length ≤ 9 ∧ Keep id h h' ∧
      loopK (ev ((env g lf n).cx Tryd.prog spec_l20Position.kl) spec_l20Position.lp0) fuel (spec_l20Position.st0 (.ptr id 0) (.int .i64 k) (.int .i64 r) (.int .i64 c) q (.int .i64 thin) (.int .i64 i) h) (spec_l20Position.K0 (env g lf n) (kTop Tryd.prog Tryd.f72)) =
        spec_l20Position.K0 (env g lf n) (kTop Tryd.prog Tryd.f72) (.exit 0) (spec_l20Position.se0_0_1_7_8_9_10_11_32 (.ptr id 0) (.int .i64 k) (.int .i64 r) (.int .i64 c) q' (.int .i64 thin) (.int .i64 i') v h') := by
  have hb := mul_bound hr1 hr2 hc1 hc2
  have w1 : binP Tryd.prog .mul 3 (.int .i64 r) (.int .i64 c) = some (.int .i64 (r * c)) := by rw [bin_mul, wr (by omega)]
  obtain ⟨X, hX⟩ : ∃ X : Int, foldP maxP2 (.int .i64 (r * c)) [.int .i64 0] = some (.int .i64 X) := ⟨_, rfl⟩
  intro m
  induction m with
  | zero =>
    intro i fuel M q xs h him hf hrd hM ho hl
    obtain ⟨f, rfl⟩ : ∃ f, fuel = f + 1 := ⟨fuel - 1, by omega⟩
    obtain rfl : i = 9 := by omega
    rw [loopK_succ, spec_l20Position.body0_eq]
    unfold spec_l20Position.body0
    refine ⟨9, M, q, xs, h, .bool false, by omega, hrd, ho, by omega, Keep.refl _ _, ?_⟩
    refine bd w1 (bd hX ?_)
    by_cases hlt : ((9 : Nat) : Int) < X
    · have f1 : binP Tryd.prog .lss 3 (.int .i64 ((9 : Nat) : Int)) (.int .i64 X) = some (.bool true) := by rw [bin_lss, decide_eq_true hlt]
      have f2 : binP Tryd.prog .lss 3 (.int .i64 ((9 : Nat) : Int)) (.int .i64 9) = some (.bool false) := by rw [bin_lss]; rfl
      refine bd f1 (bd (want_bool (x := true) (y := true)) (bd (v := (PV.int .i64 ((9 : Nat) : Int), h)) rfl ?_))
      refine bd (want_bool (x := true) (y := true)) (bd (v := (PV.bool false, h)) (congrArg (pv h) f2) (bd (v := PV.bool false) rfl (cdF ?_)))
      rfl
    · have f1 : binP Tryd.prog .lss 3 (.int .i64 ((9 : Nat) : Int)) (.int .i64 X) = some (.bool false) := by rw [bin_lss, decide_eq_false hlt]
      refine bd f1 (bd (want_bool (x := false) (y := true)) (bd (v := (PV.tup [], h)) rfl ?_))
      refine bd (want_bool (x := false) (y := true)) (bd (v := (PV.tup [], h)) rfl (bd (v := PV.bool false) rfl (cdF ?_)))
      rfl
  | succ m ih =>
    intro i fuel M q xs h him hf hrd hM ho hl
    obtain ⟨f, rfl⟩ : ∃ f, fuel = f + 1 := ⟨fuel - 1, by omega⟩
    rw [loopK_succ, spec_l20Position.body0_eq]
    unfold spec_l20Position.body0
    by_cases hlt : (i : Int) < X
    · have f1 : binP Tryd.prog .lss 3 (.int .i64 (i : Int)) (.int .i64 X) = some (.bool true) := by rw [bin_lss, decide_eq_true hlt]
      have f2 : binP Tryd.prog .lss 3 (.int .i64 (i : Int)) (.int .i64 9) = some (.bool true) := by rw [bin_lss, decide_eq_true (by omega)]
      have f3 : binP Tryd.prog .add 3 (.int .i64 (i : Int)) (.int .i64 1) = some (.int .i64 ((i + 1 : Nat) : Int)) := by rw [bin_add, nx (by omega)]
      obtain ⟨what, h1, e1, r1, o1, _⟩ := pick_calls g lf n (by omega) 3 hrd (by omega) (by omega)
      have ho1 := ho.keepOnly o1 (by omega)
      -- either way one number more
      have more : ∀ (y : Int) (h2 : PHeap) (M2 : Nat), M2 ≤ M + 2 → Rd h2 id M2 → OwnSl (id + 1) h2 q xs → Keep id h h2 → ∃ v q2 h3, buildSliceP Tryd.prog 23 1 [(0, .int .i64 y)] h2 = some v ∧ appendP Tryd.prog 23 23 q v.1 v.2 = some (q2, h3) ∧
          ∃ i' M' q' xs' h' u, M' ≤ M + 2 * (m + 1) ∧ Rd h' id M' ∧ OwnSl (id + 1) h' q' xs' ∧ xs'.length ≤ 9 ∧ Keep id h h' ∧
            loopK (ev ((env g lf n).cx Tryd.prog spec_l20Position.kl) spec_l20Position.lp0) f (spec_l20Position.st0 (.ptr id 0) (.int .i64 k) (.int .i64 r) (.int .i64 c) q2 (.int .i64 thin) (.int .i64 ((i + 1 : Nat) : Int)) h3) (spec_l20Position.K0 (env g lf n) (kTop Tryd.prog Tryd.f72)) =
              spec_l20Position.K0 (env g lf n) (kTop Tryd.prog Tryd.f72) (.exit 0) (spec_l20Position.se0_0_1_7_8_9_10_11_32 (.ptr id 0) (.int .i64 k) (.int .i64 r) (.int .i64 c) q' (.int .i64 thin) (.int .i64 i') u h') := by
        intro y h2 M2 hM2 hr2' ho2 hk2
        obtain ⟨v, q2, h3, e2, e3, o3, k3⟩ := ho2.append (by have := hr2'.lt; omega) y (by omega)
        obtain ⟨i', M', q', xs', h', u, a1, a2, a3, a4, a5, a6⟩ := ih (i + 1) f M2 q2 (xs ++ [y]) h3 (by omega) (by omega) (hr2'.keep k3 (by omega)) (by omega) o3 (by simp; omega)
        exact ⟨v, q2, h3, e2, e3, i', M', q', xs', h', u, by omega, a2, a3, a4, (hk2.trans (k3.mono (by omega))).trans a5, a6⟩
      by_cases ht : (0 : Int) < thin
      · obtain ⟨w, h2, e2, r2, o2, _⟩ := pick_calls g lf n (by omega) 4 r1 (by omega) (by omega)
        have ho2 := ho1.keepOnly o2 (by omega)
        have g1 : binP Tryd.prog .gtr 3 (.int .i64 thin) (.int .i64 0) = some (.bool true) := by rw [bin_gtr, decide_eq_true ht]
        by_cases hw : w < thin
        · have g2 : binP Tryd.prog .lss 3 (.int .i64 w) (.int .i64 thin) = some (.bool true) := by rw [bin_lss, decide_eq_true hw]
          obtain ⟨v, q2, h3, b1, b2, i', M', q', xs', h', u, a1, a2, a3, a4, a5, a6⟩ := more 0 h2 (M + 1 + 1) (by omega) r2 ho2 (o1.keep.trans o2.keep)
          refine ⟨i', M', q', xs', h', u, a1, a2, a3, a4, a5, ?_⟩
          refine bd w1 (bd hX (bd f1 (bd (want_bool (x := true) (y := true)) (bd (v := (PV.int .i64 (i : Int), h)) rfl ?_))))
          refine bd (want_bool (x := true) (y := true)) (bd (v := (PV.bool true, h)) (congrArg (pv h) f2) (bd (v := PV.bool true) rfl (cdT ?_)))
          refine bd e1 (bd g1 (bd (want_bool (x := true) (y := true)) (bd (v := (PV.ptr id 0, h1)) rfl (bd (want_bool (x := true) (y := true)) (bd e2 ?_)))))
          refine bd (want_bool (x := true) (y := true)) (bd (v := (PV.int .i64 thin, h2)) rfl (bd (want_bool (x := true) (y := true)) (bd (v := (PV.bool true, h2)) (congrArg (pv h2) g2) (bd (v := PV.bool true) rfl (cdT ?_)))))
          exact bd b1 (bd b2 (bd f3 a6))
        · have g2 : binP Tryd.prog .lss 3 (.int .i64 w) (.int .i64 thin) = some (.bool false) := by rw [bin_lss, decide_eq_false hw]
          obtain ⟨v, q2, h3, b1, b2, i', M', q', xs', h', u, a1, a2, a3, a4, a5, a6⟩ := more what h2 (M + 1 + 1) (by omega) r2 ho2 (o1.keep.trans o2.keep)
          refine ⟨i', M', q', xs', h', u, a1, a2, a3, a4, a5, ?_⟩
          refine bd w1 (bd hX (bd f1 (bd (want_bool (x := true) (y := true)) (bd (v := (PV.int .i64 (i : Int), h)) rfl ?_))))
          refine bd (want_bool (x := true) (y := true)) (bd (v := (PV.bool true, h)) (congrArg (pv h) f2) (bd (v := PV.bool true) rfl (cdT ?_)))
          refine bd e1 (bd g1 (bd (want_bool (x := true) (y := true)) (bd (v := (PV.ptr id 0, h1)) rfl (bd (want_bool (x := true) (y := true)) (bd e2 ?_)))))
          refine bd (want_bool (x := true) (y := true)) (bd (v := (PV.int .i64 thin, h2)) rfl (bd (want_bool (x := true) (y := true)) (bd (v := (PV.bool false, h2)) (congrArg (pv h2) g2) (bd (v := PV.bool false) rfl (cdF ?_)))))
          exact bd b1 (bd b2 (bd f3 a6))
      · have g1 : binP Tryd.prog .gtr 3 (.int .i64 thin) (.int .i64 0) = some (.bool false) := by rw [bin_gtr, decide_eq_false ht]
        obtain ⟨v, q2, h3, b1, b2, i', M', q', xs', h', u, a1, a2, a3, a4, a5, a6⟩ := more what h1 (M + 1) (by omega) r1 ho1 o1.keep
        refine ⟨i', M', q', xs', h', u, a1, a2, a3, a4, a5, ?_⟩
        refine bd w1 (bd hX (bd f1 (bd (want_bool (x := true) (y := true)) (bd (v := (PV.int .i64 (i : Int), h)) rfl ?_))))
        refine bd (want_bool (x := true) (y := true)) (bd (v := (PV.bool true, h)) (congrArg (pv h) f2) (bd (v := PV.bool true) rfl (cdT ?_)))
        refine bd e1 (bd g1 (bd (want_bool (x := false) (y := true)) (bd (v := (PV.tup [], h1)) rfl (bd (want_bool (x := false) (y := true)) (bd (v := (PV.tup [], h1)) rfl ?_)))))
        refine bd (want_bool (x := false) (y := true)) (bd (v := (PV.tup [], h1)) rfl (bd (want_bool (x := false) (y := true)) (bd (v := (PV.tup [], h1)) rfl (bd (v := PV.bool false) rfl (cdF ?_)))))
        exact bd b1 (bd b2 (bd f3 a6))
    · have f1 : binP Tryd.prog .lss 3 (.int .i64 (i : Int)) (.int .i64 X) = some (.bool false) := by rw [bin_lss, decide_eq_false hlt]
      refine ⟨i, M, q, xs, h, .bool false, by omega, hrd, ho, by omega, Keep.refl _ _, ?_⟩
      refine bd w1 (bd hX (bd f1 (bd (want_bool (x := false) (y := true)) (bd (v := (PV.tup [], h)) rfl ?_))))
      refine bd (want_bool (x := false) (y := true)) (bd (v := (PV.tup [], h)) rfl (bd (v := PV.bool false) rfl (cdF ?_)))
      rfl

theorem tab2 (h : PHeap) : buildSliceP Tryd.prog 23 2 [(0, .int .i64 (-1)), (1, .int .i64 3)] h = some (.sl h.length 0 2, h ++ [.own 1 [.int .i64 (-1), .int .i64 3]]) := by
  have := lit2 h [] (-1) 3
  simpa using this

theorem position_calls {h : PHeap} {id m : Nat} (N : Nat) (hN : 4 ≤ N) (k : Int) (hr : Rd h id m) (hm : m ≤ 800000) (hk : k ≤ 400000) (hk0 : 1 ≤ k) (hlf : 20 < lf) :
    ∃ (r c : Int) (q : PV) (xs : List Int) (h' : PHeap), CL g lf N fn_spec_l20Position [.ptr id 0, .int .i64 k] h = some (.tup [.int .i64 r, .int .i64 c, q], h') ∧ Rd h' id (m + 30) ∧ Keep id h h' ∧ OwnSl (id + 1) h' q xs ∧ xs.length ≤ 10 ∧ -1 ≤ r ∧ r ≤ 5 ∧ -1 ≤ c ∧ c ≤ 5 := by
  obtain ⟨n, rfl⟩ : ∃ n, N = n + 1 := ⟨N - 1, by omega⟩
  rw [spec_l20Position.call_eq]
  have wk : binP Tryd.prog .mul 3 (.int .i64 k) (.int .i64 2) = some (.int .i64 (k * 2)) := by rw [bin_mul, wr (by omega)]
  obtain ⟨r, c, h1, e1, r1, k1, hr1, hr2, hc1, hc2⟩ := board_calls g lf n (by omega) (k * 2) hr (by omega) (by omega) (by omega)
  obtain ⟨q0, h2, e2, o2, k2⟩ := empty_lit (h := h1)
  have r2 := r1.keep k2 r1.lt
  have o2' : OwnSl (id + 1) h2 q0 [] := o2.mono (by have := r1.lt; omega)
  obtain ⟨thin, h3, e3, r3, o3, _⟩ := pick_calls g lf n (by omega) 4 r2 (by omega) (by omega)
  have o3' := o2'.keepOnly o3 (by omega)
  obtain ⟨i', M', q', xs', h4, u, hM', r4, o4, hl4, k4, hloop⟩ := pos_loop g lf n (k := k) (thin := thin) hr1 hr2 hc1 hc2 (by omega) 9 0 lf _ q0 [] h3 (by omega) (by omega) r3 (by omega) o3' rfl
  have K4 : Keep id h h4 := ((k1.keep (by exact Nat.le_of_lt hr.lt)).trans ((k2.mono (by exact Nat.le_of_lt r1.lt)).trans o3.keep)).trans k4
  obtain ⟨b, h5, e5, r5, o5⟩ := odd_calls g lf n (by omega) (k * 2) r4 (by omega) (by omega) (by omega)
  have o5' := o4.keepOnly o5 (by omega)
  have K5 : Keep id h h5 := K4.trans o5.keep
  have pre : ∀ {z : PV × PHeap}, spec_l20Position.K0 (env g lf n) (kTop Tryd.prog Tryd.f72) (.exit 0) (spec_l20Position.se0_0_1_7_8_9_10_11_32 (.ptr id 0) (.int .i64 k) (.int .i64 r) (.int .i64 c) q' (.int .i64 thin) (.int .i64 i') u h4) = some z →
      spec_l20Position.main (env g lf n) (.ptr id 0) (.int .i64 k) h = some z := by
    intro z hz
    unfold spec_l20Position.main
    refine bd wk (bd e1 (bd (v := PV.int .i64 r) rfl (bd (v := PV.int .i64 c) rfl (bd e2 (bd e3 ?_)))))
    exact hloop.trans hz
  cases b with
  | false =>
    refine ⟨r, c, q', xs', h5, pre ?_, r5.mono (by omega), K5, o5', by omega, hr1, hr2, hc1, hc2⟩
    rw [spec_l20Position.after0_se0_0_1_7_8_9_10_11_32]
    exact bd wk (bd e5 (cdF (bd res_int (bd res_int (bd o5'.res rfl)))))
  | true =>
    obtain ⟨w, h6, e6, r6, o6, w0, w1, _⟩ := pick_calls g lf n (by omega) 2 r5 (by omega) (by omega)
    have o6' := o5'.keepOnly o6 (by omega)
    have K6 : Keep id h h6 := K5.trans o6.keep
    by_cases hw : w = 0
    · subst hw
      obtain ⟨v, q7, h7, e7, e8, o7, k7⟩ := o6'.append (by have := r6.lt; omega) 0 (by omega)
      refine ⟨r, c, q7, xs' ++ [0], h7, pre ?_, (r6.keep k7 (by omega)).mono (by omega), K6.trans (k7.mono (by omega)), o7, by simp; omega, hr1, hr2, hc1, hc2⟩
      rw [spec_l20Position.after0_se0_0_1_7_8_9_10_11_32]
      refine bd wk (bd e5 (cdT (bd e6 (bd (v := PV.bool true) (by simp) (cdT ?_)))))
      exact bd e7 (bd e8 (bd res_int (bd res_int (bd o7.res rfl))))
    · have hne : binP Tryd.prog .eql 3 (.int .i64 w) (.int .i64 0) = some (.bool false) := by rw [bin_eql]; simp [hw]
      have hlen := o6'.int.len'
      by_cases hl : (0 : Int) < (xs'.length : Int)
      · have hgt : binP Tryd.prog .gtr 3 (.int .i64 (xs'.length : Int)) (.int .i64 0) = some (.bool true) := by rw [bin_gtr, decide_eq_true hl]
        have r7 := r6.keep (Keep.append h6.length h6 [.own 1 [.int .i64 (-1), .int .i64 3]] (Nat.le_refl _)) r6.lt
        obtain ⟨w', h7, e7, r7', o7, w0', w1', _⟩ := pick_calls g lf n (by omega) 2 r7 (by omega) (by omega)
        have hid6 := r6.lt
        have hobj : h7[h6.length]? = some (.own 1 [.int .i64 (-1), .int .i64 3]) := by rw [o7.2 _ (by omega)]; simp
        have hw' : w' = 0 ∨ w' = 1 := by have := w1' (by omega); omega
        have hrow : ∃ a y, indexAddrP Tryd.prog 23 (.sl h6.length 0 2) (.int .i64 w') = some a ∧ loadP Tryd.prog 3 a h7 = some (.int .i64 y) := by
          rcases hw' with rfl | rfl
          · exact ⟨.ptr h6.length 0, -1, by simp [indexAddrP, tyS, tySize], by simp [loadP, tyAgg, cellsAt, hobj, PObj.get]⟩
          · exact ⟨.ptr h6.length 1, 3, by simp [indexAddrP, tyS, tySize], by simp [loadP, tyAgg, cellsAt, hobj, PObj.get]⟩
        obtain ⟨a, y, ha, hy⟩ := hrow
        have o7' := (o6'.keep (Keep.append h6.length h6 [.own 1 [.int .i64 (-1), .int .i64 3]] (Nat.le_refl _))).keepOnly o7 (by omega)
        obtain ⟨a8, h8, ha8, hs8, o8, k8, hl8⟩ := o7'.store (show 0 < xs'.length by omega) y
        have hlen' : ((0 : Nat) : Int) = 0 := rfl
        refine ⟨r, c, q', xs'.set 0 y, h8, pre ?_, (r7'.keep k8 (by omega)).mono (by omega), (K6.trans ((Keep.append id h6 _ (by omega)).trans o7.keep)).trans (k8.mono (by omega)), o8, by simp; omega, hr1, hr2, hc1, hc2⟩
        rw [spec_l20Position.after0_se0_0_1_7_8_9_10_11_32]
        refine bd wk (bd e5 (cdT (bd e6 (bd hne (cdF (bd hlen (bd hgt (cdT ?_))))))))
        exact bd (tab2 h6) (bd e7 (bd ha (bd hy (bd ha8 (bd hs8 (bd res_int (bd res_int (bd o8.res rfl))))))))
      · have hgt : binP Tryd.prog .gtr 3 (.int .i64 (xs'.length : Int)) (.int .i64 0) = some (.bool false) := by rw [bin_gtr, decide_eq_false hl]
        refine ⟨r, c, q', xs', h6, pre ?_, r6.mono (by omega), K6, o6', by omega, hr1, hr2, hc1, hc2⟩
        rw [spec_l20Position.after0_se0_0_1_7_8_9_10_11_32]
        exact bd wk (bd e5 (cdT (bd e6 (bd hne (cdF (bd hlen (bd hgt (cdF (bd res_int (bd res_int (bd o6'.res rfl)))))))))))

end Go.Proofs.YtfgjbfaapbhppaaDoor

/- Promise 3: free boards are positions. -/
namespace Go.Proofs.YtfgjbfaapbhppaaDoor
open Go Go.Ip Go.RowKit G

variable (g : Nat → PV) (lf n : Nat)

theorem alive_calls (N : Nat) (hN : 3 ≤ N) (h : PHeap) : CL g lf N fn_laws_alive [] h = some (.bool true, h) := by
  obtain ⟨n, rfl⟩ : ∃ n, N = n + 1 := ⟨N - 1, by omega⟩
  rw [laws_alive.call_eq]
  have b22 : boardB 2 2 = true := by decide
  have b02 : boardB 0 2 = false := by decide
  have e1 := boardOk_N g lf n (by omega) h 2 2
  have e2 := boardOk_N g lf n (by omega) h 0 2
  rw [b22] at e1
  rw [b02] at e2
  unfold laws_alive.main
  exact bd e1 (bd (want_bool (x := true) (y := true)) (bd e2 (bd (want_bool (x := true) (y := true)) (bd (v := (PV.bool true, h)) rfl (bd (v := PV.bool true) rfl (bd res_bool rfl))))))

theorem positionOk_N {xs : List Int} {p : PV} {h : PHeap} (N : Nat) (hN : 3 ≤ N) (r c : Int) (hp : IntSl .i64 h p xs) (hl : xs.length ≤ 2 ^ 36) (hf : xs.length < lf) :
    CL g lf N fn_impl_PositionOk [.int .i64 r, .int .i64 c, p] h = some (.bool (posB r c xs), h) := by
  obtain ⟨n, rfl⟩ : ∃ n, N = n + 3 := ⟨N - 3, by omega⟩
  exact positionOk_calls g lf n r c hp hl hf
theorem specPositionOk_N {xs : List Int} {p : PV} {h : PHeap} (N : Nat) (hN : 3 ≤ N) (r c : Int) (hp : IntSl .i64 h p xs) (hl : xs.length ≤ 2 ^ 36) (hf : xs.length < lf) :
    CL g lf N fn_spec_PositionOk [.int .i64 r, .int .i64 c, p] h = some (.bool (posB r c xs), h) := by
  obtain ⟨n, rfl⟩ : ∃ n, N = n + 3 := ⟨N - 3, by omega⟩
  exact specPositionOk_calls g lf n r c hp hl hf

/-- All stones of the first player are taken away. -/
def clearL (x : Int) : Int := if x = 1 then 0 else x

theorem contentB_clear {x : Int} (h : contentB x = true) : contentB (clearL x) = true := by
  unfold clearL
  split
  · decide
  · exact h

theorem posB_clear {r c : Int} {xs : List Int} (h : posB r c xs = true) : posB r c (xs.map clearL) = true := by
  unfold posB at h ⊢
  rw [Bool.and_eq_true, Bool.and_eq_true] at h ⊢
  refine ⟨⟨h.1.1, by rw [List.length_map]; exact h.1.2⟩, ?_⟩
  rw [List.all_eq_true] at h ⊢
  intro y hy
  obtain ⟨x, hx, rfl⟩ := List.mem_map.1 hy
  exact contentB_clear (h.2 x hx)

theorem posB_free {r c : Int} {m : Nat} (hb : boardB r c = true) (hm : (m : Int) = r * c) : posB r c (List.replicate m 0) = true := by
  unfold posB
  rw [Bool.and_eq_true, Bool.and_eq_true]
  refine ⟨⟨hb, decide_eq_true (by rw [List.length_replicate]; exact hm)⟩, ?_⟩
  rw [List.all_eq_true]
  intro y hy
  rw [List.eq_of_mem_replicate hy]
  decide

theorem posB_board {r c : Int} {xs : List Int} (hb : boardB r c = false) : posB r c xs = false := by
  unfold posB
  rw [hb]; rfl

end Go.Proofs.YtfgjbfaapbhppaaDoor

/- Promise 5: turned by half a turn twice it is as before. -/
namespace Go.Proofs.YtfgjbfaapbhppaaDoor
open Go Go.Ip Go.RowKit G

variable (g : Nat → PV) (lf n : Nat)

/-! ### sameInts: are two lists equal? -/
theorem sameInts_loop {xs ys : List Int} {p q : PV} {h : PHeap} (hp : IntSl .i64 h p xs) (hq : IntSl .i64 h q ys) (hxy : xs.length = ys.length) (hl : xs.length ≤ 2 ^ 36) : ∀ (m i fuel : Nat), i + m = xs.length → m < fuel →
    loopK (ev ((env g lf n).cx Tryd.prog laws_sameInts.kl) laws_sameInts.lp0) fuel (laws_sameInts.st0 p q (.int .i64 i) h) (laws_sameInts.K0 (env g lf n) (kTop Tryd.prog Tryd.f22)) = some (.bool (decide (xs.drop i = ys.drop i)), h)
  | 0, i, fuel, him, hf => by
    obtain ⟨f, rfl⟩ : ∃ f, fuel = f + 1 := ⟨fuel - 1, by omega⟩
    rw [loopK_succ, laws_sameInts.body0_eq]
    have hlt : ¬ ((i : Int) < (xs.length : Int)) := by omega
    have hd : xs.drop i = ys.drop i := by rw [List.drop_eq_nil_of_le (by omega), List.drop_eq_nil_of_le (by omega)]
    simp [laws_sameInts.body0, hp.len', hlt, laws_sameInts.after0_se0_0_1_5_14, hd]
  | m + 1, i, fuel, him, hf => by
    obtain ⟨f, rfl⟩ : ∃ f, fuel = f + 1 := ⟨fuel - 1, by omega⟩
    have hi : i < xs.length := by omega
    have hi' : i < ys.length := by omega
    obtain ⟨a, ha, hla⟩ := hp.at' hi
    obtain ⟨b, hb, hlb⟩ := hq.at' hi'
    have ih := sameInts_loop hp hq hxy hl m (i + 1) f (by omega) (by omega)
    have hlt : (i : Int) < (xs.length : Int) := by omega
    rw [loopK_succ, laws_sameInts.body0_eq]
    have hdx : xs.drop i = xs[i] :: xs.drop (i + 1) := List.drop_eq_getElem_cons hi
    have hdy : ys.drop i = ys[i] :: ys.drop (i + 1) := List.drop_eq_getElem_cons hi'
    by_cases he : xs[i] = ys[i]
    · have hne : (xs[i] != ys[i]) = false := by simp [he]
      simp only [laws_sameInts.body0, env_len, env_bin, env_indexAddr, env_load, hp.len', bin_lss, hlt, decide_true, Option.bind_some, cond_bool, cond_true, ha, hla, hb, hlb, bin_neq, hne, cond_false, bin_add, nx (show i < 2 ^ 40 by omega), kLoop_normal, ih]
      rw [hdx, hdy, he]
      simp only [List.cons.injEq, true_and]
    · have hne : (xs[i] != ys[i]) = true := by simp [he]
      simp only [laws_sameInts.body0, env_len, env_bin, env_indexAddr, env_load, hp.len', bin_lss, hlt, decide_true, Option.bind_some, cond_bool, cond_true, ha, hla, hb, hlb, bin_neq, hne, kLoop_ret, laws_sameInts.K0_ret, laws_sameInts.top_sr_4, res_bool, Option.bind_some]
      rw [hdx, hdy]
      simp only [List.cons.injEq, he, false_and, decide_false]

theorem sameInts_N {xs ys : List Int} {p q : PV} {h : PHeap} (N : Nat) (hN : 1 ≤ N) (hp : IntSl .i64 h p xs) (hq : IntSl .i64 h q ys) (hl : xs.length ≤ 2 ^ 36) (hf : xs.length < lf) :
    CL g lf N fn_laws_sameInts [p, q] h = some (.bool (decide (xs = ys)), h) := by
  obtain ⟨n, rfl⟩ : ∃ n, N = n + 1 := ⟨N - 1, by omega⟩
  rw [laws_sameInts.call_eq]
  by_cases hxy : xs.length = ys.length
  · have := sameInts_loop g lf n hp hq hxy hl xs.length 0 lf (by omega) hf
    simp only [laws_sameInts.main, env_len, env_bin, env_lf, hp.len', hq.len', Option.bind_some, bin_neq, hxy, bne_self_eq_false, cond_bool, cond_false]
    simpa using this
  · have hne : ((xs.length : Int) != (ys.length : Int)) = true := by simp; omega
    have hd : ¬ xs = ys := fun e => hxy (by rw [e])
    simp [laws_sameInts.main, hp.len', hq.len', hne, hd]

theorem cellsFrom_count (x : Int) : ∀ (ys : List Int) (i : Nat), (cellsFrom x i ys).length = ys.count x
  | [], _ => rfl
  | y :: ys, i => by
    have := cellsFrom_count x ys (i + 1)
    rw [cellsFrom, List.count_cons]
    by_cases h : y = x
    · rw [if_pos h, List.length_cons, this, if_pos (by simp [h])]
    · rw [if_neg h, this, if_neg (by simp [h])]; rfl

theorem posB_reverse (r c : Int) (xs : List Int) : posB r c xs.reverse = posB r c xs := by
  unfold posB
  rw [List.length_reverse, List.all_reverse]

theorem turn_turn {r c : Int} {xs : List Int} (h : posB r c xs = true) : turnL r c xs.reverse = xs := by
  unfold turnL
  rw [posB_reverse, if_pos h, List.reverse_reverse]

theorem cells_turn (r c x : Int) (xs : List Int) : (cellsL r c xs.reverse x).length = (cellsL r c xs x).length := by
  unfold cellsL
  rw [posB_reverse]
  split
  · rw [cellsFrom_count, cellsFrom_count, List.count_reverse]
  · rfl

theorem posB_some {r c : Int} {xs : List Int} (h : posB r c xs = true) : xs.length ≠ 0 := by
  unfold posB at h
  rw [Bool.and_eq_true, Bool.and_eq_true] at h
  have hb := h.1.1
  unfold boardB at hb
  have hm := of_decide_eq_true hb
  have hl := of_decide_eq_true h.1.2
  have : 0 < r * c := Int.mul_pos (by omega) (by omega)
  omega

end Go.Proofs.YtfgjbfaapbhppaaDoor

/- Promise 4: each cell is of one kind. -/
namespace Go.Proofs.YtfgjbfaapbhppaaDoor
open Go Go.Ip Go.RowKit G

variable (g : Nat → PV) (lf n : Nat)

/-! ### what is listed -/
theorem cellsFrom_mem (x : Int) : ∀ (ys : List Int) (i : Nat) (e : Int), e ∈ cellsFrom x i ys → ∃ j : Nat, e = ((i + j : Nat) : Int) ∧ ys[j]? = some x
  | [], _, _, h => by cases h
  | y :: ys, i, e, h => by
    rw [cellsFrom] at h
    by_cases hy : y = x
    · rw [if_pos hy, List.mem_cons] at h
      rcases h with rfl | h
      · exact ⟨0, rfl, by simp [hy]⟩
      · obtain ⟨j, he, hj⟩ := cellsFrom_mem x ys (i + 1) e h
        exact ⟨j + 1, by rw [he]; congr 1; omega, by simpa using hj⟩
    · rw [if_neg hy] at h
      obtain ⟨j, he, hj⟩ := cellsFrom_mem x ys (i + 1) e h
      exact ⟨j + 1, by rw [he]; congr 1; omega, by simpa using hj⟩

theorem cellsFrom_sorted (x : Int) : ∀ (ys : List Int) (i : Nat), (cellsFrom x i ys).Pairwise (· < ·)
  | [], _ => List.Pairwise.nil
  | y :: ys, i => by
    rw [cellsFrom]
    have ih := cellsFrom_sorted x ys (i + 1)
    by_cases hy : y = x
    · rw [if_pos hy, List.pairwise_cons]
      refine ⟨fun e he => ?_, ih⟩
      obtain ⟨j, he, _⟩ := cellsFrom_mem x ys (i + 1) e he
      omega
    · rw [if_neg hy]; exact ih

theorem cells_sum : ∀ (ys : List Int), ys.all contentB = true → ys.count 0 + ys.count 1 + ys.count 2 = ys.length
  | [], _ => rfl
  | y :: ys, h => by
    simp only [List.all_cons, Bool.and_eq_true] at h
    have ih := cells_sum ys h.2
    have hy := h.1
    unfold contentB at hy
    have hy := of_decide_eq_true hy
    have : y = 0 ∨ y = 1 ∨ y = 2 := by omega
    rcases this with rfl | rfl | rfl <;> simp <;> omega

/-! ### ascend -/
theorem asc_loop {L : List Int} {p : PV} {h : PHeap} (hp : IntSl .i64 h p L) (hs : ∀ i (hi : i + 1 < L.length), L[i] < L[i + 1]) (hl : L.length ≤ 2 ^ 36) : ∀ (m j fuel : Nat), L.length ≤ j + 1 + m → j ≤ 2 ^ 36 → m < fuel →
    loopK (ev ((env g lf n).cx Tryd.prog laws_ascend.kl) laws_ascend.lp0) fuel (laws_ascend.st0 p (.int .i64 ((j + 1 : Nat) : Int)) h) (laws_ascend.K0 (env g lf n) (kTop Tryd.prog Tryd.f26)) = some (.bool true, h) := by
  intro m
  induction m with
  | zero =>
    intro j fuel hj hj2 hf
    obtain ⟨f, rfl⟩ : ∃ f, fuel = f + 1 := ⟨fuel - 1, by omega⟩
    rw [loopK_succ, laws_ascend.body0_eq]
    have f1 : binP Tryd.prog .lss 3 (.int .i64 ((j + 1 : Nat) : Int)) (.int .i64 (L.length : Int)) = some (.bool false) := by rw [bin_lss, decide_eq_false (by omega)]
    unfold laws_ascend.body0
    refine bd hp.len' (bd f1 (cdF ?_))
    show laws_ascend.K0 (env g lf n) _ (.exit 0) _ = _
    rw [laws_ascend.after0_se0_0_3_7]
    exact bd res_bool rfl
  | succ m ih =>
    intro j fuel hj hj2 hf
    obtain ⟨f, rfl⟩ : ∃ f, fuel = f + 1 := ⟨fuel - 1, by omega⟩
    rw [loopK_succ, laws_ascend.body0_eq]
    unfold laws_ascend.body0
    by_cases hlt : j + 1 < L.length
    · have f1 : binP Tryd.prog .lss 3 (.int .i64 ((j + 1 : Nat) : Int)) (.int .i64 (L.length : Int)) = some (.bool true) := by rw [bin_lss, decide_eq_true (by omega)]
      have f2 : binP Tryd.prog .sub 3 (.int .i64 ((j + 1 : Nat) : Int)) (.int .i64 1) = some (.int .i64 (j : Int)) := by rw [bin_sub, show (((j + 1 : Nat) : Int) - 1) = (j : Int) by omega, wr (by omega)]
      have f3 : binP Tryd.prog .add 3 (.int .i64 ((j + 1 : Nat) : Int)) (.int .i64 1) = some (.int .i64 ((j + 1 + 1 : Nat) : Int)) := by rw [bin_add, nx (by omega)]
      obtain ⟨a, ha, hla⟩ := hp.at' (show j < L.length by omega)
      obtain ⟨b, hb, hlb⟩ := hp.at' hlt
      have hlt' := hs j hlt
      have f4 : binP Tryd.prog .geq 3 (.int .i64 L[j]) (.int .i64 L[j + 1]) = some (.bool false) := by rw [bin_geq, decide_eq_false (by omega)]
      exact bd hp.len' (bd f1 (cdT (bd f2 (bd ha (bd hla (bd hb (bd hlb (bd f4 (cdF (bd f3 (ih (j + 1) f (by omega) (by omega) (by omega))))))))))))
    · have f1 : binP Tryd.prog .lss 3 (.int .i64 ((j + 1 : Nat) : Int)) (.int .i64 (L.length : Int)) = some (.bool false) := by rw [bin_lss, decide_eq_false (by omega)]
      refine bd hp.len' (bd f1 (cdF ?_))
      show laws_ascend.K0 (env g lf n) _ (.exit 0) _ = _
      rw [laws_ascend.after0_se0_0_3_7]
      exact bd res_bool rfl

theorem ascend_calls {L : List Int} {p : PV} {h : PHeap} (N : Nat) (hN : 1 ≤ N) (hp : IntSl .i64 h p L) (hs : ∀ i (hi : i + 1 < L.length), L[i] < L[i + 1]) (hl : L.length ≤ 2 ^ 36) (hf : L.length < lf) :
    CL g lf N fn_laws_ascend [p] h = some (.bool true, h) := by
  obtain ⟨n, rfl⟩ : ∃ n, N = n + 1 := ⟨N - 1, by omega⟩
  rw [laws_ascend.call_eq]
  exact asc_loop g lf n hp hs hl L.length 0 lf (by omega) (by omega) hf

/-! ### the law's own loops -/
end Go.Proofs.YtfgjbfaapbhppaaDoor

/- What both functions that mirror a position compute, and the exact law on them. -/
namespace Go.Proofs.YtfgjbfaapbhppaaDoor
open Go Go.Ip Go.RowKit G

variable (g : Nat → PV) (lf n : Nat)

def swapI (x : Int) : Int := if x = 1 then 2 else if x = 2 then 1 else x
/-- Where the mirrored position's cell k comes from: of a board of R rows and C columns. -/
def sig (R C k : Nat) : Nat := k % R * C + k / R
def mir (R C : Nat) (xs : List Int) : List Int := (List.range xs.length).map fun k => swapI (xs.getD (sig R C k) 0)
def mirL (r c : Int) (xs : List Int) : List Int := if posB r c xs = true then mir r.toNat c.toNat xs else []

theorem mirL_length (r c : Int) (xs : List Int) : (mirL r c xs).length ≤ xs.length := by
  unfold mirL mir; split <;> simp

theorem sig_small : ∀ R : Fin 5, ∀ C : Fin 5, ∀ k : Fin 10, 1 ≤ R.1 → 1 ≤ C.1 → k.1 < R.1 * C.1 → sig R.1 C.1 k.1 < R.1 * C.1 ∧ sig C.1 R.1 (sig R.1 C.1 k.1) = k.1 := by decide

/-- A board's sides, as numbers. -/
def Sides (r c : Int) (R C : Nat) (xs : List Int) : Prop := r = (R : Int) ∧ c = (C : Int) ∧ 1 ≤ R ∧ R ≤ 4 ∧ 1 ≤ C ∧ C ≤ 4 ∧ R * C ≤ 9 ∧ xs.length = R * C ∧ xs.all contentB = true

theorem sides_of {r c : Int} {xs : List Int} (h : posB r c xs = true) : ∃ R C, Sides r c R C xs := by
  unfold posB at h
  rw [Bool.and_eq_true, Bool.and_eq_true] at h
  have hb := h.1.1
  unfold boardB at hb
  have hm := of_decide_eq_true hb
  have hl := of_decide_eq_true h.1.2
  obtain ⟨R, rfl⟩ := Int.eq_ofNat_of_zero_le (show 0 ≤ r by omega)
  obtain ⟨C, rfl⟩ := Int.eq_ofNat_of_zero_le (show 0 ≤ c by omega)
  have h9 := hm.2.2.2.2
  rw [← Int.natCast_mul] at h9 hl
  exact ⟨R, C, rfl, rfl, by omega, by omega, by omega, by omega, by omega, by omega, h.2⟩

theorem sig_lt {R C k : Nat} (h1 : 1 ≤ R) (h2 : R ≤ 4) (h3 : 1 ≤ C) (h4 : C ≤ 4) (h9 : R * C ≤ 9) (hk : k < R * C) : sig R C k < R * C ∧ sig C R (sig R C k) = k :=
  sig_small ⟨R, by omega⟩ ⟨C, by omega⟩ ⟨k, by omega⟩ h1 h3 hk

theorem f_rem (i R : Nat) (hR : 1 ≤ R) : binP Tryd.prog .rem 3 (.int .i64 (i : Int)) (.int .i64 (R : Int)) = some (.int .i64 ((i % R : Nat) : Int)) := by
  rw [bin_rem (show (R : Int) ≠ 0 by omega)]; rfl
theorem f_quo (i R : Nat) (hR : 1 ≤ R) (hi : i ≤ 1000) : binP Tryd.prog .quo 3 (.int .i64 (i : Int)) (.int .i64 (R : Int)) = some (.int .i64 ((i / R : Nat) : Int)) := by
  rw [bin_quo (show (R : Int) ≠ 0 by omega), show ((i : Int).tdiv (R : Int)) = ((i / R : Nat) : Int) from rfl]
  have := Nat.div_le_self i R
  obtain ⟨q, hq⟩ : ∃ q, q = i / R := ⟨_, rfl⟩
  rw [← hq] at this ⊢
  rw [wr (by omega)]
theorem f_mul (a b : Nat) (h : a * b ≤ 1000) : binP Tryd.prog .mul 3 (.int .i64 (a : Int)) (.int .i64 (b : Int)) = some (.int .i64 ((a * b : Nat) : Int)) := by
  rw [bin_mul, ← Int.natCast_mul, wr (by omega)]
theorem f_add (a b : Nat) (h : a + b ≤ 1000) : binP Tryd.prog .add 3 (.int .i64 (a : Int)) (.int .i64 (b : Int)) = some (.int .i64 ((a + b : Nat) : Int)) := by
  rw [bin_add, ← Int.natCast_add, wr (by omega)]

theorem mirroredCell_N (N : Nat) (hN : 1 ≤ N) (h : PHeap) {R C i : Nat} (h1 : 1 ≤ R) (h2 : R ≤ 4) (h3 : 1 ≤ C) (h4 : C ≤ 4) (h9 : R * C ≤ 9) (hi : i < R * C) :
    CL g lf N fn_impl_mirroredCell [.int .i64 (R : Int), .int .i64 (C : Int), .int .i64 (i : Int)] h = some (.int .i64 ((sig C R i : Nat) : Int), h) := by
  obtain ⟨n, rfl⟩ : ∃ n, N = n + 1 := ⟨N - 1, by omega⟩
  rw [impl_mirroredCell.call_eq]
  have hs := (sig_lt h3 h4 h1 h2 (by rw [Nat.mul_comm]; exact h9) (by rw [Nat.mul_comm]; exact hi) : sig C R i < C * R ∧ _).1
  rw [Nat.mul_comm C R] at hs
  unfold sig at hs ⊢
  have hle := Nat.le_add_right (i % C * R) (i / C)
  unfold impl_mirroredCell.main
  exact bd (f_rem i C h3) (bd (f_mul _ _ (by omega)) (bd (f_quo i C h3 (by omega)) (bd (f_add _ _ (by omega)) (bd res_int rfl))))

theorem exchanged_N (N : Nat) (hN : 1 ≤ N) (h : PHeap) (x : Int) : CL g lf N fn_impl_exchanged [.int .i64 x] h = some (.int .i64 (swapI x), h) := by
  obtain ⟨n, rfl⟩ : ∃ n, N = n + 1 := ⟨N - 1, by omega⟩
  rw [impl_exchanged.call_eq]
  by_cases h1 : x = 1
  · subst h1; simp [impl_exchanged.main, swapI]
  · by_cases h2 : x = 2
    · subst h2; simp [impl_exchanged.main, swapI]
    · have b1 : (x == 1) = false := by simp [h1]
      have b2 : (x == 2) = false := by simp [h2]
      simp [impl_exchanged.main, swapI, b1, b2, h1, h2]

theorem mirI_loop {xs : List Int} {p : PV} {r c : Int} {R C : Nat} (hs : Sides r c R C xs) (hn : 1 ≤ n) : ∀ (m i fuel : Nat) (q : PV) (ys : List Int) (h : PHeap) (b : Nat), i + m = xs.length → m < fuel → ys.length = xs.length →
    OwnSl b h q ys → b ≤ h.length → (∀ h', Keep b h h' → IntSl .i64 h' p xs) →
    ∃ h' zs, loopK (ev ((env g lf n).cx Tryd.prog impl_Mirrored.kl) impl_Mirrored.lp0) fuel (impl_Mirrored.st0 (.int .i64 (R : Int)) (.int .i64 (C : Int)) q p (.int .i64 (xs.length : Int)) (.int .i64 (i : Int)) h) (impl_Mirrored.K0 (env g lf n) (kTop Tryd.prog Tryd.f19)) = some (q, h') ∧
      OwnSl b h' q zs ∧ zs.length = xs.length ∧ (∀ j : Nat, j < xs.length → zs[sig C R j]? = if i ≤ j then (xs[j]?).map swapI else ys[sig C R j]?) ∧ Keep b h h'
  | 0, i, fuel, q, ys, h, b, him, hf, hy, ho, hb, hp => by
    obtain ⟨f, rfl⟩ : ∃ f, fuel = f + 1 := ⟨fuel - 1, by omega⟩
    refine ⟨h, ys, ?_, ho, hy, fun j hj => by rw [if_neg (by omega)], Keep.refl _ _⟩
    rw [loopK_succ, impl_Mirrored.body0_eq]
    have f1 : binP Tryd.prog .lss 3 (.int .i64 (i : Int)) (.int .i64 (xs.length : Int)) = some (.bool false) := by rw [bin_lss, decide_eq_false (by omega)]
    unfold impl_Mirrored.body0
    refine bd f1 (cdF ?_)
    show impl_Mirrored.K0 (env g lf n) _ (.exit 0) _ = _
    rw [impl_Mirrored.after0_se0_0_1_7_18_19_20_21]
    exact bd ho.res rfl
  | m + 1, i, fuel, q, ys, h, b, him, hf, hy, ho, hb, hp => by
    obtain ⟨f, rfl⟩ : ∃ f, fuel = f + 1 := ⟨fuel - 1, by omega⟩
    obtain ⟨hr, hc, h1, h2, h3, h4, h9, hlen, hall⟩ := id hs
    have hi : i < xs.length := by omega
    have hp0 := hp h (Keep.refl _ _)
    obtain ⟨a, ha, hla⟩ := hp0.at' hi
    have hsig : ∀ j, j < xs.length → sig C R j < xs.length ∧ sig R C (sig C R j) = j := fun j hj => by
      have := sig_lt (k := j) h3 h4 h1 h2 (by rw [Nat.mul_comm]; exact h9) (by rw [Nat.mul_comm C R]; omega)
      rw [Nat.mul_comm C R, ← hlen] at this
      exact this
    obtain ⟨a2, h2', ha2, hs2, ho2, hk2, hlen2⟩ := ho.store (show sig C R i < ys.length by have := (hsig i hi).1; omega) (swapI xs[i])
    obtain ⟨h', zs, hr', ho', hz, hzz, hk'⟩ := mirI_loop hs hn m (i + 1) f q (ys.set (sig C R i) (swapI xs[i])) h2' b (by omega) (by omega) (by simpa using hy) ho2 (by omega) (fun h3 hk3 => hp h3 (hk2.trans hk3))
    refine ⟨h', zs, ?_, ho', hz, ?_, hk2.trans hk'⟩
    · rw [loopK_succ, impl_Mirrored.body0_eq]
      have f1 : binP Tryd.prog .lss 3 (.int .i64 (i : Int)) (.int .i64 (xs.length : Int)) = some (.bool true) := by rw [bin_lss, decide_eq_true (by omega)]
      have f3 : binP Tryd.prog .add 3 (.int .i64 (i : Int)) (.int .i64 1) = some (.int .i64 ((i + 1 : Nat) : Int)) := by rw [bin_add, nx (by omega)]
      have e1 := mirroredCell_N g lf n hn h h1 h2 h3 h4 h9 (show i < R * C by omega)
      have e2 := exchanged_N g lf n hn h xs[i]
      unfold impl_Mirrored.body0
      refine bd f1 (cdT ?_)
      exact bd ha (bd hla (bd e1 (bd e2 (bd ha2 (bd hs2 (bd f3 hr'))))))
    · intro j hj
      rw [hzz j hj]
      by_cases c1 : i + 1 ≤ j
      · rw [if_pos c1, if_pos (by omega)]
      · rw [if_neg c1]
        by_cases c2 : i = j
        · subst c2
          rw [if_pos (Nat.le_refl _), List.getElem?_set_self (by have := (hsig i hi).1; omega), List.getElem?_eq_getElem hi]; rfl
        · have hne : sig C R i ≠ sig C R j := fun e => c2 (by rw [← (hsig i hi).2, ← (hsig j hj).2, e])
          rw [if_neg (by omega), List.getElem?_set_ne hne]

theorem mirrored_calls {xs : List Int} {p : PV} {h : PHeap} (N : Nat) (hN : 4 ≤ N) (r c : Int) (hp : IntSl .i64 h p xs) (hl : xs.length ≤ 2 ^ 35) (hf : xs.length < lf) :
    ∃ q h', CL g lf N fn_impl_Mirrored [.int .i64 r, .int .i64 c, p] h = some (q, h') ∧ OwnSl h.length h' q (mirL r c xs) ∧ Keep h.length h h' := by
  obtain ⟨n, rfl⟩ : ∃ n, N = n + 1 := ⟨N - 1, by omega⟩
  rw [impl_Mirrored.call_eq]
  have hpos := positionOk_N g lf n (by omega) r c hp (by omega) hf
  unfold mirL
  cases hb : posB r c xs with
  | false => exact ⟨.nilsl, h, by simp [impl_Mirrored.main, hpos, hb], OwnSl.nil _ _, Keep.refl _ _⟩
  | true =>
    rw [hb] at hpos
    obtain ⟨R, C, hs⟩ := sides_of hb
    obtain ⟨rfl, rfl, h1, h2, h3, h4, h9, hlen, hall⟩ := id hs
    obtain ⟨q, ha, hm, ho, hk⟩ := made (h := h) (m := xs.length) (by omega)
    obtain ⟨h', zs, hr, ho', hz, hzz, hk'⟩ := mirI_loop g lf n hs (by omega) xs.length 0 lf q (List.replicate xs.length 0) ha h.length (by omega) hf (by simp) ho hk.1 (fun h' hk' => hp.keep (hk.trans hk'))
    refine ⟨q, h', ?_, ?_, hk.trans hk'⟩
    · unfold impl_Mirrored.main
      refine bd hpos (bd un_not (cdF ?_))
      exact bd hp.len' (bd hm (bd hp.len' hr))
    · rw [if_pos rfl]
      have : zs = mir ((R : Int).toNat) ((C : Int).toNat) xs := by
        show zs = mir R C xs
        apply List.ext_getElem?
        intro k
        by_cases hk : k < xs.length
        · have hsk := sig_lt (k := k) h1 h2 h3 h4 h9 (by omega)
          have hj : sig R C k < xs.length := by omega
          have := hzz (sig R C k) hj
          rw [if_pos (Nat.zero_le _), hsk.2, List.getElem?_eq_getElem hj] at this
          rw [this]
          unfold mir
          rw [List.getElem?_map, List.getElem?_range hk, Option.map_some, Option.map_some, List.getD_eq_getElem?_getD, List.getElem?_eq_getElem hj]; rfl
        · rw [List.getElem?_eq_none (by omega), List.getElem?_eq_none (by unfold mir; simp; omega)]
      rw [← this]; exact ho'

end Go.Proofs.YtfgjbfaapbhppaaDoor

/- The neighbours of a cell: the program's loop over its table of steps, the model's two loops, and the exact law. -/
namespace Go.Proofs.YtfgjbfaapbhppaaDoor
open Go Go.Ip G

/-! ### the table of steps -/
def tabCells : List PV := [.int .i64 (-1), .int .i64 0, .int .i64 (-1), .int .i64 1, .int .i64 0, .int .i64 (-1), .int .i64 0, .int .i64 1, .int .i64 1, .int .i64 (-1), .int .i64 1, .int .i64 0]
def steps : List (Int × Int) := [(-1, 0), (-1, 1), (0, -1), (0, 1), (1, -1), (1, 0)]
def stp (i : Nat) : Int × Int := steps.getD i (0, 0)

/-- The table lies at an object that is only read. -/
def Tab (g : Nat → PV) (h : PHeap) : Prop := ∃ id, g 0 = .ptr id 0 ∧ h[id]? = some (.ro 1 tabCells)

theorem Tab.keep {g : Nat → PV} {h h' : PHeap} (t : Tab g h) (k : Keep h.length h h') : Tab g h' := by
  obtain ⟨id, e, ho⟩ := t
  exact ⟨id, e, by rw [k.2 id (List.getElem?_eq_some_iff.1 ho).1]; exact ho⟩

def tab64N : List Nat := [0, 1, 56, 2, 57, 49, 28, 3, 61, 58, 42, 50, 38, 29, 17, 4, 62, 47, 59, 36, 45, 43, 51, 22, 53, 39, 33, 30, 24, 18, 12, 5, 63, 55, 48, 27, 60, 41, 37, 16, 46, 35, 44, 21, 52, 32, 23, 11, 54, 26, 40, 15, 34, 20, 31, 10, 25, 14, 19, 9, 13, 8, 7, 6]
def tab64Cells : List PV := tab64N.map fun n : Nat => .int .u8 (n : Int)
/-- Where the library's table of 64 bytes is known to lie, it reads so. -/
def Tab64 (g : Nat → PV) (h : PHeap) : Prop := ∀ id, g 2 = .ptr id 0 → h[id]? = some (.ro 1 tab64Cells)
theorem Tab64.keep {g : Nat → PV} {h h' : PHeap} (t : Tab64 g h) (k : Keep h.length h h') : Tab64 g h' := fun id e => by have ho := t id e; rw [k.2 id (List.getElem?_eq_some_iff.1 ho).1]; exact ho

theorem tyTabAgg : isAggT Tryd.prog 77 = some true := by kernel_rfl
theorem tyTabSize : sizeT Tryd.prog 77 = some 12 := by kernel_rfl
theorem tyPairZ : zeroCellsT Tryd.prog 76 = some [.int .i64 0, .int .i64 0] := by kernel_rfl
theorem tyPairSize : sizeT Tryd.prog 76 = some 2 := by kernel_rfl
theorem tyPairU : Tryd.prog.underlying 76 = some (.array 2 3) := by kernel_rfl

theorem tab_load {g : Nat → PV} {h : PHeap} (t : Tab g h) : loadP Tryd.prog 77 (g 0) h = some (.agg tabCells) := by
  obtain ⟨id, e, ho⟩ := t
  rw [e]
  simp [loadP, tyTabAgg, tyTabSize, cellsAt, ho, PObj.get, tabCells]

theorem tab_index (i : Nat) (hi : i < 6) : indexP Tryd.prog 77 (.agg tabCells) (.int .i64 (i : Int)) = some (.agg [.int .i64 (stp i).1, .int .i64 (stp i).2]) := by
  have t0 : indexP Tryd.prog 77 (.agg tabCells) (.int .i64 ((0 : Nat) : Int)) = some (.agg [.int .i64 (stp 0).1, .int .i64 (stp 0).2]) := by kernel_rfl
  have t1 : indexP Tryd.prog 77 (.agg tabCells) (.int .i64 ((1 : Nat) : Int)) = some (.agg [.int .i64 (stp 1).1, .int .i64 (stp 1).2]) := by kernel_rfl
  have t2 : indexP Tryd.prog 77 (.agg tabCells) (.int .i64 ((2 : Nat) : Int)) = some (.agg [.int .i64 (stp 2).1, .int .i64 (stp 2).2]) := by kernel_rfl
  have t3 : indexP Tryd.prog 77 (.agg tabCells) (.int .i64 ((3 : Nat) : Int)) = some (.agg [.int .i64 (stp 3).1, .int .i64 (stp 3).2]) := by kernel_rfl
  have t4 : indexP Tryd.prog 77 (.agg tabCells) (.int .i64 ((4 : Nat) : Int)) = some (.agg [.int .i64 (stp 4).1, .int .i64 (stp 4).2]) := by kernel_rfl
  have t5 : indexP Tryd.prog 77 (.agg tabCells) (.int .i64 ((5 : Nat) : Int)) = some (.agg [.int .i64 (stp 5).1, .int .i64 (stp 5).2]) := by kernel_rfl
  have : i = 0 ∨ i = 1 ∨ i = 2 ∨ i = 3 ∨ i = 4 ∨ i = 5 := by omega
  rcases this with rfl | rfl | rfl | rfl | rfl | rfl
  · exact t0
  · exact t1
  · exact t2
  · exact t3
  · exact t4
  · exact t5

theorem stp_small (i : Nat) : -1 ≤ (stp i).1 ∧ (stp i).1 ≤ 1 ∧ -1 ≤ (stp i).2 ∧ (stp i).2 ≤ 1 := by
  by_cases hi : i < 6
  · have : i = 0 ∨ i = 1 ∨ i = 2 ∨ i = 3 ∨ i = 4 ∨ i = 5 := by omega
    rcases this with rfl | rfl | rfl | rfl | rfl | rfl <;> decide
  · have : stp i = (0, 0) := by
      unfold stp
      rw [List.getD_eq_getElem?_getD, List.getElem?_eq_none (by show 6 ≤ i; omega)]; rfl
    rw [this]; decide

theorem pair_alloc (h : PHeap) : allocP Tryd.prog 76 h = some (.ptr h.length 0, h ++ [.own 1 [.int .i64 0, .int .i64 0]]) := by simp [allocP, tyPairZ]
theorem pair_store (h : PHeap) (a b : Int) : storeP Tryd.prog 76 (.ptr h.length 0) (.agg [.int .i64 a, .int .i64 b]) (h ++ [.own 1 [.int .i64 0, .int .i64 0]]) = some (h ++ [.own 1 [.int .i64 a, .int .i64 b]]) := by
  simp [storeP, tyPairSize, PV.cells, PV.oneCell, setCells]
theorem pair_addr0 (id : Nat) : indexAddrP Tryd.prog 76 (.ptr id 0) (.int .i64 0) = some (.ptr id 0) := by simp [indexAddrP, tySize]
theorem pair_addr1 (id : Nat) : indexAddrP Tryd.prog 76 (.ptr id 0) (.int .i64 1) = some (.ptr id 1) := by simp [indexAddrP, tySize]
theorem pair_load0 (h : PHeap) (a b : PV) : loadP Tryd.prog 3 (.ptr h.length 0) (h ++ [.own 1 [a, b]]) = some a := by simp [loadP, tyAgg, cellsAt, PObj.get]
theorem pair_load1 (h : PHeap) (a b : PV) : loadP Tryd.prog 3 (.ptr h.length 1) (h ++ [.own 1 [a, b]]) = some b := by simp [loadP, tyAgg, cellsAt, PObj.get]

/-! ### what is meant -/
def rowAt (C k : Nat) (s : Int × Int) : Int := ((k / C : Nat) : Int) + s.1
def colAt (C k : Nat) (s : Int × Int) : Int := ((k % C : Nat) : Int) + s.2
def inB (R C k : Nat) (s : Int × Int) : Bool := decide (0 ≤ rowAt C k s) && decide (rowAt C k s < R) && decide (0 ≤ colAt C k s) && decide (colAt C k s < C)
def nearFrom (R C k : Nat) (ss : List (Int × Int)) : List Int := (ss.filter (inB R C k)).map fun s => rowAt C k s * C + colAt C k s
def nearN (R C k : Nat) : List Int := nearFrom R C k steps
def cellB (r c k : Int) : Bool := boardB r c && decide (0 ≤ k ∧ k < r * c)
def nearL (r c k : Int) : List Int := if cellB r c k = true then nearN r.toNat c.toNat k.toNat else []

theorem nearFrom_append (R C k : Nat) (a b : List (Int × Int)) : nearFrom R C k (a ++ b) = nearFrom R C k a ++ nearFrom R C k b := by
  unfold nearFrom; rw [List.filter_append, List.map_append]
theorem nearFrom_length (R C k : Nat) (a : List (Int × Int)) : (nearFrom R C k a).length ≤ a.length := by
  unfold nearFrom; rw [List.length_map]; exact List.length_filter_le _ _
theorem nearL_length (r c k : Int) : (nearL r c k).length ≤ 6 := by
  unfold nearL
  split
  · exact nearFrom_length _ _ _ steps
  · simp

/-- A cell of a board, as numbers. -/
def CellOf (r c k : Int) (R C K : Nat) : Prop := r = (R : Int) ∧ c = (C : Int) ∧ k = (K : Int) ∧ 1 ≤ R ∧ R ≤ 4 ∧ 1 ≤ C ∧ C ≤ 4 ∧ R * C ≤ 9 ∧ K < R * C

theorem cell_of {r c k : Int} (h : cellB r c k = true) : ∃ R C K, CellOf r c k R C K := by
  unfold cellB at h
  rw [Bool.and_eq_true] at h
  have hb := h.1
  unfold boardB at hb
  have hm := of_decide_eq_true hb
  have hk := of_decide_eq_true h.2
  obtain ⟨R, rfl⟩ := Int.eq_ofNat_of_zero_le (show 0 ≤ r by omega)
  obtain ⟨C, rfl⟩ := Int.eq_ofNat_of_zero_le (show 0 ≤ c by omega)
  obtain ⟨K, rfl⟩ := Int.eq_ofNat_of_zero_le (show 0 ≤ k by omega)
  have h9 := hm.2.2.2.2
  rw [← Int.natCast_mul] at h9 hk
  exact ⟨R, C, K, rfl, rfl, rfl, by omega, by omega, by omega, by omega, by omega, by omega⟩

theorem row_small (C k : Nat) (s : Int × Int) (hk : k ≤ 9) (hs : -1 ≤ s.1 ∧ s.1 ≤ 1 ∧ -1 ≤ s.2 ∧ s.2 ≤ 1) : -1 ≤ rowAt C k s ∧ rowAt C k s ≤ 10 ∧ -1 ≤ colAt C k s ∧ colAt C k s ≤ 10 := by
  unfold rowAt colAt
  have e1 : ((k / C : Nat) : Int) ≤ 9 := Int.ofNat_le.2 (Nat.le_trans (Nat.div_le_self k C) hk)
  have e2 : ((k % C : Nat) : Int) ≤ 9 := Int.ofNat_le.2 (Nat.le_trans (Nat.mod_le k C) hk)
  have e3 : (0 : Int) ≤ ((k / C : Nat) : Int) := Int.natCast_nonneg _
  have e4 : (0 : Int) ≤ ((k % C : Nat) : Int) := Int.natCast_nonneg _
  refine ⟨?_, ?_, ?_, ?_⟩ <;> omega

theorem mul_in {y : Int} {C : Nat} (h0 : 0 ≤ y) (h1 : y ≤ 10) (h2 : 1 ≤ C) (h3 : C ≤ 4) : 0 ≤ y * C ∧ y * C ≤ 40 := by
  have : C = 1 ∨ C = 2 ∨ C = 3 ∨ C = 4 := by omega
  rcases this with rfl | rfl | rfl | rfl <;> omega

/-- An operation under a guard. -/
theorem gd {α β : Type} {b t : Bool} {x y : Option α} {f : α → Option β} {r : Option β} (hb : b = t) (hx : x.bind f = r) : ((wantV (.bool b) t).bind fun v => (bif v then x else y).bind f) = r := by
  subst hb; simpa using hx
theorem gn {α β : Type} {b t : Bool} {x y : Option α} {f : α → Option β} {r : Option β} (hb : b = !t) (hy : y.bind f = r) : ((wantV (.bool b) t).bind fun v => (bif v then x else y).bind f) = r := by
  subst hb; cases t <;> simpa using hy

variable (g : Nat → PV) (lf n : Nat)

/-! ### the program -/
theorem near_step {R C k i : Nat} (h1 : 1 ≤ R) (h2 : R ≤ 4) (h3 : 1 ≤ C) (h4 : C ≤ 4) (hk : k ≤ 9) (hi : i < 6) (K : PX → St → Res) {q : PV} {ys : List Int} {h : PHeap} {b : Nat} (ho : OwnSl b h q ys) (hb : b ≤ h.length) (hy : ys.length ≤ 10) :
    ∃ q' h', impl_NearCells.body0 (env g lf n) K (.int .i64 (R : Int)) (.int .i64 (C : Int)) (.int .i64 (k : Int)) q (.agg tabCells) (.int .i64 (i : Int)) h = K .normal (impl_NearCells.st0 (.int .i64 (R : Int)) (.int .i64 (C : Int)) (.int .i64 (k : Int)) q' (.agg tabCells) (.int .i64 ((i + 1 : Nat) : Int)) h') ∧
      OwnSl b h' q' (ys ++ nearFrom R C k [stp i]) ∧ Keep b h h' := by
  have hs := stp_small i
  have hsm := row_small C k (stp i) hk hs
  have kp : Keep h.length h (h ++ [PObj.own 1 [.int .i64 (stp i).1, .int .i64 (stp i).2]]) := Keep.append _ _ _ (Nat.le_refl _)
  have ho1 := ho.keep kp
  have f1 : binP Tryd.prog .lss 3 (.int .i64 (i : Int)) (.int .i64 6) = some (.bool true) := by rw [bin_lss, decide_eq_true (by omega)]
  have fq := f_quo k C h3 (by omega)
  have fr := f_rem k C h3
  have fy : binP Tryd.prog .add 3 (.int .i64 ((k / C : Nat) : Int)) (.int .i64 (stp i).1) = some (.int .i64 (rowAt C k (stp i))) := by
    rw [bin_add]; unfold rowAt at hsm ⊢; rw [wr (by omega)]
  have fx : binP Tryd.prog .add 3 (.int .i64 ((k % C : Nat) : Int)) (.int .i64 (stp i).2) = some (.int .i64 (colAt C k (stp i))) := by
    rw [bin_add]; unfold colAt at hsm ⊢; rw [wr (by omega)]
  have fn' : binP Tryd.prog .add 3 (.int .i64 (i : Int)) (.int .i64 1) = some (.int .i64 ((i + 1 : Nat) : Int)) := by rw [bin_add, nx (by omega)]
  have hnf : nearFrom R C k [stp i] = if inB R C k (stp i) = true then [rowAt C k (stp i) * C + colAt C k (stp i)] else [] := by
    unfold nearFrom; cases e : inB R C k (stp i) <;> simp [List.filter_cons, e]
  obtain ⟨y, hyy⟩ : ∃ y, y = rowAt C k (stp i) := ⟨_, rfl⟩
  obtain ⟨x, hxx⟩ : ∃ x, x = colAt C k (stp i) := ⟨_, rfl⟩
  rw [← hyy] at fy; rw [← hxx] at fx; rw [← hyy, ← hxx] at hsm hnf
  have hin : inB R C k (stp i) = (decide (0 ≤ y) && decide (y < R) && decide (0 ≤ x) && decide (x < C)) := by unfold inB; rw [← hyy, ← hxx]
  have g1 : binP Tryd.prog .geq 3 (.int .i64 y) (.int .i64 0) = some (.bool (decide (0 ≤ y))) := bin_geq
  have g2 : binP Tryd.prog .lss 3 (.int .i64 y) (.int .i64 (R : Int)) = some (.bool (decide (y < R))) := bin_lss
  have g3 : binP Tryd.prog .geq 3 (.int .i64 x) (.int .i64 0) = some (.bool (decide (0 ≤ x))) := bin_geq
  have g4 : binP Tryd.prog .lss 3 (.int .i64 x) (.int .i64 (C : Int)) = some (.bool (decide (x < C))) := bin_lss
  cases hin' : (decide (0 ≤ y) && decide (y < R) && decide (0 ≤ x) && decide (x < C)) with
  | true =>
    have hc := hin'
    simp only [Bool.and_eq_true, decide_eq_true_eq] at hc
    rw [hin, hin', if_pos rfl] at hnf
    have hm := mul_in (C := C) hc.1.1.1 (show y ≤ 10 by omega) h3 h4
    obtain ⟨v, q2, h2', hb2, ha2, ho2, hk2⟩ := ho1.append (by have := kp.1; omega) (y * C + x) (by omega)
    rw [decide_eq_true hc.1.1.1] at g1
    rw [decide_eq_true hc.1.1.2] at g2
    rw [decide_eq_true hc.1.2] at g3
    rw [decide_eq_true hc.2] at g4
    have m1 : binP Tryd.prog .mul 3 (.int .i64 y) (.int .i64 (C : Int)) = some (.int .i64 (y * C)) := by rw [bin_mul, wr (by omega)]
    have m2 : binP Tryd.prog .add 3 (.int .i64 (y * C)) (.int .i64 x) = some (.int .i64 (y * C + x)) := by rw [bin_add, wr (by omega)]
    refine ⟨q2, h2', ?_, by rw [hnf]; exact ho2, (kp.mono hb).trans hk2⟩
    unfold impl_NearCells.body0
    refine bd f1 (cdT (bd (tab_index i hi) (bd (pair_alloc h) (bd (pair_store h _ _) (bd fq (bd (pair_addr0 _) (bd (pair_load0 h _ _) (bd fy (bd fr (bd (pair_addr1 _) (bd (pair_load1 h _ _) (bd fx ?_))))))))))))
    refine bd g1 (gd rfl (bd rfl (gd rfl (bd rfl (gd rfl (bd (congrArg (pv _) g2) (bd (v := PV.bool true) rfl ?_)))))))
    refine gd rfl (bd rfl (gd rfl (bd (congrArg (pv _) g3) (bd (v := PV.bool true) rfl ?_))))
    refine gd rfl (bd rfl (gd rfl (bd rfl (gd rfl (bd (congrArg (pv _) g4) (bd (v := PV.bool true) rfl (cdT ?_)))))))
    exact bd m1 (bd m2 (bd hb2 (bd ha2 (bd fn' rfl))))
  | false =>
    rw [hin, hin', if_neg (by decide), ] at hnf
    refine ⟨q, _, ?_, by rw [hnf, List.append_nil]; exact ho1, kp.mono hb⟩
    unfold impl_NearCells.body0
    refine bd f1 (cdT (bd (tab_index i hi) (bd (pair_alloc h) (bd (pair_store h _ _) (bd fq (bd (pair_addr0 _) (bd (pair_load0 h _ _) (bd fy (bd fr (bd (pair_addr1 _) (bd (pair_load1 h _ _) (bd fx ?_))))))))))))
    cases c1 : decide (0 ≤ y) with
    | false =>
      rw [c1] at g1
      refine bd g1 (gn rfl (bd rfl (gn rfl (bd rfl (gn rfl (bd rfl (bd (v := PV.bool false) rfl ?_)))))))
      refine gn rfl (bd rfl (gn rfl (bd rfl (bd (v := PV.bool false) rfl ?_))))
      refine gn rfl (bd rfl (gn rfl (bd rfl (gn rfl (bd rfl (bd (v := PV.bool false) rfl (cdF (bd fn' rfl))))))))
    | true =>
      rw [c1] at g1
      refine bd g1 (gd rfl (bd rfl (gd rfl (bd rfl (gd rfl (bd (congrArg (pv _) g2) (bd (v := PV.bool (decide (y < R))) rfl ?_)))))))
      cases c2 : decide (y < (R : Int)) with
      | false =>
        refine gn rfl (bd rfl (gn rfl (bd rfl (bd (v := PV.bool false) rfl ?_))))
        refine gn rfl (bd rfl (gn rfl (bd rfl (gn rfl (bd rfl (bd (v := PV.bool false) rfl (cdF (bd fn' rfl))))))))
      | true =>
        refine gd rfl (bd rfl (gd rfl (bd (congrArg (pv _) g3) (bd (v := PV.bool (decide (0 ≤ x))) rfl ?_))))
        cases c3 : decide (0 ≤ x) with
        | false => refine gn rfl (bd rfl (gn rfl (bd rfl (gn rfl (bd rfl (bd (v := PV.bool false) rfl (cdF (bd fn' rfl))))))))
        | true =>
          have c4 : decide (x < (C : Int)) = false := by rw [c1, c2, c3] at hin'; simpa using hin'
          rw [c4] at g4
          refine gd rfl (bd rfl (gd rfl (bd rfl (gd rfl (bd (congrArg (pv _) g4) (bd (v := PV.bool false) rfl (cdF (bd fn' rfl))))))))

theorem near_loop {R C k : Nat} (h1 : 1 ≤ R) (h2 : R ≤ 4) (h3 : 1 ≤ C) (h4 : C ≤ 4) (hk : k ≤ 9) : ∀ (m i fuel : Nat) (q : PV) (ys : List Int) (h : PHeap) (b : Nat), i + m = 6 → m < fuel → ys.length ≤ i → OwnSl b h q ys → b ≤ h.length →
    ∃ q' h', loopK (ev ((env g lf n).cx Tryd.prog impl_NearCells.kl) impl_NearCells.lp0) fuel (impl_NearCells.st0 (.int .i64 (R : Int)) (.int .i64 (C : Int)) (.int .i64 (k : Int)) q (.agg tabCells) (.int .i64 (i : Int)) h) (impl_NearCells.K0 (env g lf n) (kTop Tryd.prog Tryd.f73)) = some (q', h') ∧
      OwnSl b h' q' (ys ++ nearFrom R C k (steps.drop i)) ∧ Keep b h h'
  | 0, i, fuel, q, ys, h, b, him, hf, hy, ho, hb => by
    obtain ⟨f, rfl⟩ : ∃ f, fuel = f + 1 := ⟨fuel - 1, by omega⟩
    obtain rfl : i = 6 := by omega
    refine ⟨q, h, ?_, by rw [show steps.drop 6 = [] from rfl]; simpa [nearFrom] using ho, Keep.refl _ _⟩
    rw [loopK_succ, impl_NearCells.body0_eq]
    have f1 : binP Tryd.prog .lss 3 (.int .i64 ((6 : Nat) : Int)) (.int .i64 6) = some (.bool false) := by rw [bin_lss]; rfl
    unfold impl_NearCells.body0
    refine bd f1 (cdF ?_)
    rw [kLoop_exit, impl_NearCells.after0_se0_0_1_2_7_17_18_19]
    exact bd ho.res rfl
  | m + 1, i, fuel, q, ys, h, b, him, hf, hy, ho, hb => by
    obtain ⟨f, rfl⟩ : ∃ f, fuel = f + 1 := ⟨fuel - 1, by omega⟩
    have hi : i < 6 := by omega
    obtain ⟨q1, h', e1, o1, k1⟩ := near_step g lf n h1 h2 h3 h4 hk hi (kLoop (ev ((env g lf n).cx Tryd.prog impl_NearCells.kl) impl_NearCells.lp0) f (impl_NearCells.K0 (env g lf n) (kTop Tryd.prog Tryd.f73))) ho hb (by omega)
    have hl := nearFrom_length R C k [stp i]
    obtain ⟨q2, h'', e2, o2, k2⟩ := near_loop h1 h2 h3 h4 hk m (i + 1) f q1 (ys ++ nearFrom R C k [stp i]) h' b (by omega) (by omega) (by rw [List.length_append]; simp at hl; omega) o1 (by have := k1.1; omega)
    refine ⟨q2, h'', ?_, ?_, k1.trans k2⟩
    · rw [loopK_succ, impl_NearCells.body0_eq, e1, kLoop_normal]; exact e2
    · have hd : steps.drop i = [stp i] ++ steps.drop (i + 1) := by
        have : i = 0 ∨ i = 1 ∨ i = 2 ∨ i = 3 ∨ i = 4 ∨ i = 5 := by omega
        rcases this with rfl | rfl | rfl | rfl | rfl | rfl <;> rfl
      rw [hd, nearFrom_append, ← List.append_assoc]; exact o2

theorem cellOk_N (N : Nat) (hN : 3 ≤ N) (h : PHeap) (r c k : Int) : CL g lf N fn_impl_cellOk [.int .i64 r, .int .i64 c, .int .i64 k] h = some (.bool (cellB r c k), h) := by
  obtain ⟨n, rfl⟩ : ∃ n, N = n + 3 := ⟨N - 3, by omega⟩
  rw [impl_cellOk.call_eq]
  unfold cellB
  cases hb : boardB r c with
  | false => simp [impl_cellOk.main, boardOk_calls, hb]
  | true =>
    have hb' := hb
    unfold boardB at hb'
    have hm := of_decide_eq_true hb'
    have hmul := mul_small hm.1 hm.2.1 hm.2.2.1 hm.2.2.2.1
    by_cases h0 : 0 ≤ k <;> simp [impl_cellOk.main, boardOk_calls, hb, hmul, h0]

theorem nearCells_calls (N : Nat) (hN : 4 ≤ N) (hlf : 20 < lf) {h : PHeap} (ht : Tab g h) (r c k : Int) :
    ∃ q h', CL g lf N fn_impl_NearCells [.int .i64 r, .int .i64 c, .int .i64 k] h = some (q, h') ∧ OwnSl h.length h' q (nearL r c k) ∧ Keep h.length h h' := by
  obtain ⟨n, rfl⟩ : ∃ n, N = n + 1 := ⟨N - 1, by omega⟩
  rw [impl_NearCells.call_eq]
  have hc := cellOk_N g lf n (by omega) h r c k
  unfold nearL
  cases hb : cellB r c k with
  | false =>
    rw [hb] at hc
    refine ⟨.nilsl, h, ?_, OwnSl.nil _ _, Keep.refl _ _⟩
    unfold impl_NearCells.main
    exact bd hc (bd un_not (cdT (bd res_nilsl rfl)))
  | true =>
    rw [hb] at hc
    obtain ⟨R, C, K, rfl, rfl, rfl, h1, h2, h3, h4, h9, hK⟩ := cell_of hb
    obtain ⟨q', h', e, o, k'⟩ := near_loop g lf n h1 h2 h3 h4 (show K ≤ 9 by omega) 6 0 lf .nilsl [] h h.length (by omega) (by omega) (by simp) (OwnSl.nil _ _) (Nat.le_refl _)
    refine ⟨q', h', ?_, by rw [if_pos rfl]; simpa [nearN] using o, k'⟩
    unfold impl_NearCells.main
    exact bd hc (bd un_not (cdF (bd (tab_load ht) e)))

end Go.Proofs.YtfgjbfaapbhppaaDoor

/- The model's neighbours, 'is a number in a list', and the exact law on neighbours. -/
namespace Go.Proofs.YtfgjbfaapbhppaaDoor
open Go Go.Ip G

variable (g : Nat → PV) (lf n : Nat)

theorem l1In_N (N : Nat) (hN : 1 ≤ N) (h : PHeap) (a lo hi : Int) : CL g lf N fn_spec_l1In [.int .i64 a, .int .i64 lo, .int .i64 hi] h = some (.bool (decide (lo ≤ a ∧ a ≤ hi)), h) := by
  obtain ⟨n, rfl⟩ : ∃ n, N = n + 1 := ⟨N - 1, by omega⟩
  exact l1In_calls g lf n h a lo hi

def rowSteps (i : Int) : List (Int × Int) := [(i, -1), (i, 0), (i, 1)].filter fun s => s.1 != s.2
theorem rowSteps_all : rowSteps (-1) ++ rowSteps 0 ++ rowSteps 1 = steps := by decide

theorem l1_step {R C k : Nat} (hn : 1 ≤ n) (h2 : R ≤ 4) (h3 : 1 ≤ C) (h4 : C ≤ 4) (hk : k ≤ 9) (s : Int × Int) (hs : -1 ≤ s.1 ∧ s.1 ≤ 1 ∧ -1 ≤ s.2 ∧ s.2 ≤ 1) (y x x' : Int) (hy : y = rowAt C k s) (hx : x = colAt C k s) (hx' : x' = x + 1)
    (K : PX → St → Res) {q : PV} {ys : List Int} {h : PHeap} {b : Nat} (ho : OwnSl b h q ys) (hb : b ≤ h.length) (hl : ys.length ≤ 20) :
    ∃ q' h', spec_l1Near.body1 (env g lf n) K (.int .i64 (R : Int)) (.int .i64 (C : Int)) q (.int .i64 ((k / C : Nat) : Int)) (.int .i64 ((k % C : Nat) : Int)) (.int .i64 y) (.int .i64 x) h =
        K .normal (spec_l1Near.st1 (.int .i64 (R : Int)) (.int .i64 (C : Int)) q' (.int .i64 ((k / C : Nat) : Int)) (.int .i64 ((k % C : Nat) : Int)) (.int .i64 y) (.int .i64 x') h') ∧
      OwnSl b h' q' (ys ++ nearFrom R C k ([s].filter fun s => s.1 != s.2)) ∧ Keep b h h' := by
  have hsm := row_small C k s hk hs
  have e1 : ((k / C : Nat) : Int) ≤ 9 := Int.ofNat_le.2 (Nat.le_trans (Nat.div_le_self k C) hk)
  have e2 : ((k % C : Nat) : Int) ≤ 9 := Int.ofNat_le.2 (Nat.le_trans (Nat.mod_le k C) hk)
  have e3 : (0 : Int) ≤ ((k / C : Nat) : Int) := Int.natCast_nonneg _
  have e4 : (0 : Int) ≤ ((k % C : Nat) : Int) := Int.natCast_nonneg _
  have hy' : y = ((k / C : Nat) : Int) + s.1 := hy
  have hxx : x = ((k % C : Nat) : Int) + s.2 := hx
  rw [← hy, ← hx] at hsm
  have hin : inB R C k s = (decide (0 ≤ y ∧ y ≤ (R : Int) - 1) && decide (0 ≤ x ∧ x ≤ (C : Int) - 1)) := by
    unfold inB
    rw [← hy, ← hx, Bool.eq_iff_iff]
    simp only [Bool.and_eq_true, decide_eq_true_eq]
    omega
  have hnf : ∀ t : Bool, (s.1 != s.2) = t → nearFrom R C k ([s].filter fun s => s.1 != s.2) = if (t && inB R C k s) = true then [y * C + x] else [] := by
    intro t ht
    unfold nearFrom
    cases t with
    | false => simp [ht]
    | true => cases e : inB R C k s <;> simp [ht, e, hy, hx]
  obtain ⟨a, ha⟩ : ∃ a, a = ((k / C : Nat) : Int) := ⟨_, rfl⟩
  obtain ⟨c, hc⟩ : ∃ c, c = ((k % C : Nat) : Int) := ⟨_, rfl⟩
  rw [← ha, ← hc]
  rw [← ha] at e1 e3 hy'
  rw [← hc] at e2 e4 hxx
  have f1 : binP Tryd.prog .add 3 (.int .i64 c) (.int .i64 1) = some (.int .i64 (c + 1)) := by rw [bin_add, wr (by omega)]
  have f2 : binP Tryd.prog .leq 3 (.int .i64 x) (.int .i64 (c + 1)) = some (.bool true) := by rw [bin_leq, decide_eq_true (by omega)]
  have f3 : binP Tryd.prog .sub 3 (.int .i64 y) (.int .i64 a) = some (.int .i64 s.1) := by rw [bin_sub, wr (by omega), show y - a = s.1 by omega]
  have f4 : binP Tryd.prog .sub 3 (.int .i64 x) (.int .i64 c) = some (.int .i64 s.2) := by rw [bin_sub, wr (by omega), show x - c = s.2 by omega]
  have f5 : binP Tryd.prog .neq 3 (.int .i64 s.1) (.int .i64 s.2) = some (.bool (s.1 != s.2)) := bin_neq
  have f6 : binP Tryd.prog .sub 3 (.int .i64 (R : Int)) (.int .i64 1) = some (.int .i64 ((R : Int) - 1)) := by rw [bin_sub, wr (by omega)]
  have f7 : binP Tryd.prog .sub 3 (.int .i64 (C : Int)) (.int .i64 1) = some (.int .i64 ((C : Int) - 1)) := by rw [bin_sub, wr (by omega)]
  have f8 : binP Tryd.prog .add 3 (.int .i64 x) (.int .i64 1) = some (.int .i64 x') := by rw [bin_add, wr (by omega), hx']
  have l1 := l1In_N g lf n hn h y 0 ((R : Int) - 1)
  have l2 := l1In_N g lf n hn h x 0 ((C : Int) - 1)
  unfold spec_l1Near.body1
  cases c1 : (s.1 != s.2) with
  | false =>
    have := hnf false c1
    rw [Bool.false_and, if_neg (by decide)] at this
    refine ⟨q, h, ?_, by rw [this, List.append_nil]; exact ho, Keep.refl _ _⟩
    rw [c1] at f5
    refine bd f1 (bd f2 (cdT (bd f3 (bd f4 (bd f5 ?_)))))
    refine gn rfl (bd rfl (gn rfl (bd rfl (gn rfl (bd rfl (gn rfl (bd rfl (bd (v := PV.bool false) rfl ?_))))))))
    exact gn rfl (bd rfl (gn rfl (bd rfl (gn rfl (bd rfl (gn rfl (bd rfl (bd (v := PV.bool false) rfl (cdF (bd f8 rfl))))))))))
  | true =>
    have hnf := hnf true c1
    rw [Bool.true_and, hin] at hnf
    rw [c1] at f5
    cases c2 : decide (0 ≤ y ∧ y ≤ (R : Int) - 1) with
    | false =>
      rw [c2, Bool.false_and, if_neg (by decide)] at hnf
      rw [c2] at l1
      refine ⟨q, h, ?_, by rw [hnf, List.append_nil]; exact ho, Keep.refl _ _⟩
      refine bd f1 (bd f2 (cdT (bd f3 (bd f4 (bd f5 ?_)))))
      refine gd rfl (bd rfl (gd rfl (bd rfl (gd rfl (bd (congrArg (pv _) f6) (gd rfl (bd l1 (bd (v := PV.bool false) rfl ?_))))))))
      exact gn rfl (bd rfl (gn rfl (bd rfl (gn rfl (bd rfl (gn rfl (bd rfl (bd (v := PV.bool false) rfl (cdF (bd f8 rfl))))))))))
    | true =>
      rw [c2, Bool.true_and] at hnf
      rw [c2] at l1
      cases c3 : decide (0 ≤ x ∧ x ≤ (C : Int) - 1) with
      | false =>
        rw [c3, if_neg (by decide)] at hnf
        rw [c3] at l2
        refine ⟨q, h, ?_, by rw [hnf, List.append_nil]; exact ho, Keep.refl _ _⟩
        refine bd f1 (bd f2 (cdT (bd f3 (bd f4 (bd f5 ?_)))))
        refine gd rfl (bd rfl (gd rfl (bd rfl (gd rfl (bd (congrArg (pv _) f6) (gd rfl (bd l1 (bd (v := PV.bool true) rfl ?_))))))))
        exact gd rfl (bd rfl (gd rfl (bd rfl (gd rfl (bd (congrArg (pv _) f7) (gd rfl (bd l2 (bd (v := PV.bool false) rfl (cdF (bd f8 rfl))))))))))
      | true =>
        rw [c3, if_pos rfl] at hnf
        rw [c3] at l2
        have hyb := of_decide_eq_true c2
        have hxb := of_decide_eq_true c3
        have hm := mul_in (C := C) hyb.1 (show y ≤ 10 by omega) h3 h4
        have m1 : binP Tryd.prog .mul 3 (.int .i64 y) (.int .i64 (C : Int)) = some (.int .i64 (y * C)) := by rw [bin_mul, wr (by omega)]
        have m2 : binP Tryd.prog .add 3 (.int .i64 (y * C)) (.int .i64 x) = some (.int .i64 (y * C + x)) := by rw [bin_add, wr (by omega)]
        obtain ⟨v, q2, h2', hb2, ha2, ho2, hk2⟩ := ho.append hb (y * C + x) (by omega)
        refine ⟨q2, h2', ?_, by rw [hnf]; exact ho2, hk2⟩
        refine bd f1 (bd f2 (cdT (bd f3 (bd f4 (bd f5 ?_)))))
        refine gd rfl (bd rfl (gd rfl (bd rfl (gd rfl (bd (congrArg (pv _) f6) (gd rfl (bd l1 (bd (v := PV.bool true) rfl ?_))))))))
        exact gd rfl (bd rfl (gd rfl (bd rfl (gd rfl (bd (congrArg (pv _) f7) (gd rfl (bd l2 (bd (v := PV.bool true) rfl (cdT (bd m1 (bd m2 (bd hb2 (bd ha2 (bd f8 rfl))))))))))))))

theorem l1_row {R C k : Nat} (hn : 1 ≤ n) (hlf : 20 < lf) (h2 : R ≤ 4) (h3 : 1 ≤ C) (h4 : C ≤ 4) (hk : k ≤ 9) (i : Int) (hi : -1 ≤ i ∧ i ≤ 1) (y y' : Int) (hy : y = rowAt C k (i, 0)) (hy' : y' = y + 1)
    (K : PX → St → Res) {q : PV} {ys : List Int} {h : PHeap} {b : Nat} (ho : OwnSl b h q ys) (hb : b ≤ h.length) (hl : ys.length ≤ 10) :
    ∃ q' h', spec_l1Near.body0 (env g lf n) K (.int .i64 (R : Int)) (.int .i64 (C : Int)) q (.int .i64 ((k / C : Nat) : Int)) (.int .i64 ((k % C : Nat) : Int)) (.int .i64 y) h =
        K .normal (spec_l1Near.st0 (.int .i64 (R : Int)) (.int .i64 (C : Int)) q' (.int .i64 ((k / C : Nat) : Int)) (.int .i64 ((k % C : Nat) : Int)) (.int .i64 y') h') ∧
      OwnSl b h' q' (ys ++ nearFrom R C k (rowSteps i)) ∧ Keep b h h' := by
  obtain ⟨F, rfl⟩ : ∃ F, lf = F + 4 := ⟨lf - 4, by omega⟩
  have e1 : ((k / C : Nat) : Int) ≤ 9 := Int.ofNat_le.2 (Nat.le_trans (Nat.div_le_self k C) hk)
  have e2 : ((k % C : Nat) : Int) ≤ 9 := Int.ofNat_le.2 (Nat.le_trans (Nat.mod_le k C) hk)
  have e3 : (0 : Int) ≤ ((k / C : Nat) : Int) := Int.natCast_nonneg _
  have e4 : (0 : Int) ≤ ((k % C : Nat) : Int) := Int.natCast_nonneg _
  have hyv : y = ((k / C : Nat) : Int) + i := hy
  obtain ⟨L, hL⟩ : ∃ L : St → (PX → St → Res) → Res, L = ev ((env g (F + 4) n).cx Tryd.prog spec_l1Near.kl) spec_l1Near.lp1 := ⟨_, rfl⟩
  obtain ⟨q1, h1', b1, o1, k1⟩ := l1_step g (F + 4) n hn h2 h3 h4 hk (i, -1) ⟨hi.1, hi.2, (show (-1 : Int) ≤ -1 by decide), (show (-1 : Int) ≤ 1 by decide)⟩ y (((k % C : Nat) : Int) - 1) ((k % C : Nat) : Int) hy rfl (by omega) (kLoop L (F + 3) (spec_l1Near.K1 (env g (F + 4) n) K)) ho hb (by omega)
  have L1 := nearFrom_length R C k ([((i, -1) : Int × Int)].filter fun s => s.1 != s.2)
  have L1' : ([((i, -1) : Int × Int)].filter fun s => s.1 != s.2).length ≤ 1 := List.length_filter_le _ _
  obtain ⟨q2, h2', b2, o2, k2⟩ := l1_step g (F + 4) n hn h2 h3 h4 hk (i, 0) ⟨hi.1, hi.2, (show (-1 : Int) ≤ 0 by decide), (show (0 : Int) ≤ 1 by decide)⟩ y ((k % C : Nat) : Int) (((k % C : Nat) : Int) + 1) hy (by show _ = ((k % C : Nat) : Int) + 0; omega) rfl (kLoop L (F + 2) (spec_l1Near.K1 (env g (F + 4) n) K)) o1 (by have := k1.1; omega) (by rw [List.length_append]; omega)
  have L2 := nearFrom_length R C k ([((i, 0) : Int × Int)].filter fun s => s.1 != s.2)
  have L2' : ([((i, 0) : Int × Int)].filter fun s => s.1 != s.2).length ≤ 1 := List.length_filter_le _ _
  obtain ⟨q3, h3', b3, o3, k3⟩ := l1_step g (F + 4) n hn h2 h3 h4 hk (i, 1) ⟨hi.1, hi.2, (show (-1 : Int) ≤ 1 by decide), (show (1 : Int) ≤ 1 by decide)⟩ y (((k % C : Nat) : Int) + 1) (((k % C : Nat) : Int) + 2) hy rfl (by omega) (kLoop L (F + 1) (spec_l1Near.K1 (env g (F + 4) n) K)) o2 (by have := k1.1; have := k2.1; omega) (by rw [List.length_append, List.length_append]; omega)
  refine ⟨q3, h3', ?_, ?_, (k1.trans k2).trans k3⟩
  · have f1 : binP Tryd.prog .add 3 (.int .i64 ((k / C : Nat) : Int)) (.int .i64 1) = some (.int .i64 (((k / C : Nat) : Int) + 1)) := by rw [bin_add, wr (by omega)]
    have f2 : binP Tryd.prog .leq 3 (.int .i64 y) (.int .i64 (((k / C : Nat) : Int) + 1)) = some (.bool true) := by rw [bin_leq, decide_eq_true (by omega)]
    have f3 : binP Tryd.prog .sub 3 (.int .i64 ((k % C : Nat) : Int)) (.int .i64 1) = some (.int .i64 (((k % C : Nat) : Int) - 1)) := by rw [bin_sub, wr (by omega)]
    have f4 : binP Tryd.prog .add 3 (.int .i64 ((k % C : Nat) : Int)) (.int .i64 1) = some (.int .i64 (((k % C : Nat) : Int) + 1)) := by rw [bin_add, wr (by omega)]
    have f5 : binP Tryd.prog .leq 3 (.int .i64 (((k % C : Nat) : Int) + 2)) (.int .i64 (((k % C : Nat) : Int) + 1)) = some (.bool false) := by rw [bin_leq, decide_eq_false (by omega)]
    have f6 : binP Tryd.prog .add 3 (.int .i64 y) (.int .i64 1) = some (.int .i64 y') := by rw [bin_add, wr (by omega), hy']
    unfold spec_l1Near.body0
    refine bd f1 (bd f2 (cdT (bd f3 ?_)))
    rw [env_lf, loopK_succ, spec_l1Near.body1_eq, ← hL]
    rw [b1, kLoop_normal, loopK_succ, hL, spec_l1Near.body1_eq, ← hL, b2, kLoop_normal, loopK_succ, hL, spec_l1Near.body1_eq, ← hL, b3, kLoop_normal, loopK_succ, hL, spec_l1Near.body1_eq]
    unfold spec_l1Near.body1
    refine bd f4 (bd f5 (cdF ?_))
    rw [kLoop_exit, spec_l1Near.after1_se2_0_1_7_8_9_10_11_32]
    exact bd f6 rfl
  · have : rowSteps i = ([((i, -1) : Int × Int)].filter fun s => s.1 != s.2) ++ ([((i, 0) : Int × Int)].filter fun s => s.1 != s.2) ++ ([((i, 1) : Int × Int)].filter fun s => s.1 != s.2) := by
      unfold rowSteps
      rw [← List.filter_append, ← List.filter_append]; rfl
    rw [this, nearFrom_append, nearFrom_append, ← List.append_assoc, ← List.append_assoc]
    exact o3

theorem rowSteps_length (i : Int) : (rowSteps i).length ≤ 3 := List.length_filter_le _ _

theorem l1Near_calls (N : Nat) (hN : 2 ≤ N) (hlf : 20 < lf) {h : PHeap} {R C k : Nat} (h2 : R ≤ 4) (h3 : 1 ≤ C) (h4 : C ≤ 4) (hk : k ≤ 9) :
    ∃ q h', CL g lf N fn_spec_l1Near [.int .i64 (R : Int), .int .i64 (C : Int), .int .i64 (k : Int)] h = some (q, h') ∧ OwnSl h.length h' q (nearN R C k) ∧ Keep h.length h h' := by
  obtain ⟨n, rfl⟩ : ∃ n, N = n + 1 := ⟨N - 1, by omega⟩
  rw [spec_l1Near.call_eq]
  obtain ⟨F, rfl⟩ : ∃ F, lf = F + 4 := ⟨lf - 4, by omega⟩
  obtain ⟨q0, h0, e0, o0, k0⟩ := empty_lit (h := h)
  have e1 : ((k / C : Nat) : Int) ≤ 9 := Int.ofNat_le.2 (Nat.le_trans (Nat.div_le_self k C) hk)
  have e3 : (0 : Int) ≤ ((k / C : Nat) : Int) := Int.natCast_nonneg _
  obtain ⟨L, hL⟩ : ∃ L : St → (PX → St → Res) → Res, L = ev ((env g (F + 4) n).cx Tryd.prog spec_l1Near.kl) spec_l1Near.lp0 := ⟨_, rfl⟩
  obtain ⟨q1, h1', b1, o1, k1⟩ := l1_row g (F + 4) n (by omega) hlf h2 h3 h4 hk (-1) (by decide) (((k / C : Nat) : Int) - 1) ((k / C : Nat) : Int) rfl (by omega) (kLoop L (F + 3) (spec_l1Near.K0 (env g (F + 4) n) (kTop Tryd.prog Tryd.f65))) o0 k0.1 (by simp)
  have L1 := nearFrom_length R C k (rowSteps (-1))
  have L1' := rowSteps_length (-1)
  obtain ⟨q2, h2', b2, o2, k2⟩ := l1_row g (F + 4) n (by omega) hlf h2 h3 h4 hk 0 (by decide) ((k / C : Nat) : Int) (((k / C : Nat) : Int) + 1) (by show _ = ((k / C : Nat) : Int) + 0; omega) rfl (kLoop L (F + 2) (spec_l1Near.K0 (env g (F + 4) n) (kTop Tryd.prog Tryd.f65))) o1 (by have := k1.1; have := k0.1; omega) (by rw [List.length_append]; simp; omega)
  have L2 := nearFrom_length R C k (rowSteps 0)
  have L2' := rowSteps_length 0
  obtain ⟨q3, h3', b3, o3, k3⟩ := l1_row g (F + 4) n (by omega) hlf h2 h3 h4 hk 1 (by decide) (((k / C : Nat) : Int) + 1) (((k / C : Nat) : Int) + 2) rfl (by omega) (kLoop L (F + 1) (spec_l1Near.K0 (env g (F + 4) n) (kTop Tryd.prog Tryd.f65))) o2 (by have := k1.1; have := k0.1; have := k2.1; omega) (by rw [List.length_append, List.length_append]; simp; omega)
  refine ⟨q3, h3', ?_, ?_, ((k0.trans k1).trans k2).trans k3⟩
  · have f3 : binP Tryd.prog .sub 3 (.int .i64 ((k / C : Nat) : Int)) (.int .i64 1) = some (.int .i64 (((k / C : Nat) : Int) - 1)) := by rw [bin_sub, wr (by omega)]
    have f4 : binP Tryd.prog .add 3 (.int .i64 ((k / C : Nat) : Int)) (.int .i64 1) = some (.int .i64 (((k / C : Nat) : Int) + 1)) := by rw [bin_add, wr (by omega)]
    have f5 : binP Tryd.prog .leq 3 (.int .i64 (((k / C : Nat) : Int) + 2)) (.int .i64 (((k / C : Nat) : Int) + 1)) = some (.bool false) := by rw [bin_leq, decide_eq_false (by omega)]
    unfold spec_l1Near.main
    refine bd e0 (bd (f_quo k C h3 (by omega)) (bd (f_rem k C h3) (bd f3 ?_)))
    rw [env_lf, loopK_succ, spec_l1Near.body0_eq, ← hL]
    rw [b1, kLoop_normal, loopK_succ, hL, spec_l1Near.body0_eq, ← hL, b2, kLoop_normal, loopK_succ, hL, spec_l1Near.body0_eq, ← hL, b3, kLoop_normal, loopK_succ, hL, spec_l1Near.body0_eq]
    unfold spec_l1Near.body0
    refine bd f4 (bd f5 (cdF ?_))
    rw [kLoop_exit, spec_l1Near.after0_se0_0_1_7_8_9_10_24]
    exact bd o3.res rfl
  · unfold nearN
    rw [← rowSteps_all, nearFrom_append, nearFrom_append]
    simpa using o3

/-! ### hasInt -/
theorem has_loop {xs : List Int} {p : PV} {h : PHeap} (x : Int) (hp : IntSl .i64 h p xs) (hl : xs.length ≤ 2 ^ 36) : ∀ (m i fuel : Nat), i + m = xs.length → m < fuel →
    loopK (ev ((env g lf n).cx Tryd.prog laws_hasInt.kl) laws_hasInt.lp0) fuel (laws_hasInt.st0 p (.int .i64 x) (.int .i64 (i : Int)) h) (laws_hasInt.K0 (env g lf n) (kTop Tryd.prog Tryd.f25)) = some (.bool (decide (x ∈ xs.drop i)), h)
  | 0, i, fuel, him, hf => by
    obtain ⟨f, rfl⟩ : ∃ f, fuel = f + 1 := ⟨fuel - 1, by omega⟩
    rw [loopK_succ, laws_hasInt.body0_eq]
    have f1 : binP Tryd.prog .lss 3 (.int .i64 (i : Int)) (.int .i64 (xs.length : Int)) = some (.bool false) := by rw [bin_lss, decide_eq_false (by omega)]
    have hd : xs.drop i = [] := List.drop_eq_nil_of_le (by omega)
    unfold laws_hasInt.body0
    refine bd hp.len' (bd f1 (cdF ?_))
    rw [kLoop_exit, laws_hasInt.after0_se0_0_1_5_9, hd]
    exact bd res_bool rfl
  | m + 1, i, fuel, him, hf => by
    obtain ⟨f, rfl⟩ : ∃ f, fuel = f + 1 := ⟨fuel - 1, by omega⟩
    have hi : i < xs.length := by omega
    obtain ⟨a, ha, hla⟩ := hp.at' hi
    have ih := has_loop x hp hl m (i + 1) f (by omega) (by omega)
    rw [loopK_succ, laws_hasInt.body0_eq]
    have f1 : binP Tryd.prog .lss 3 (.int .i64 (i : Int)) (.int .i64 (xs.length : Int)) = some (.bool true) := by rw [bin_lss, decide_eq_true (by omega)]
    have f2 : binP Tryd.prog .eql 3 (.int .i64 xs[i]) (.int .i64 x) = some (.bool (xs[i] == x)) := bin_eql
    have f3 : binP Tryd.prog .add 3 (.int .i64 (i : Int)) (.int .i64 1) = some (.int .i64 ((i + 1 : Nat) : Int)) := by rw [bin_add, nx (by omega)]
    have hdx : xs.drop i = xs[i] :: xs.drop (i + 1) := List.drop_eq_getElem_cons hi
    unfold laws_hasInt.body0
    refine bd hp.len' (bd f1 (cdT (bd ha (bd hla (bd f2 ?_)))))
    by_cases he : xs[i] = x
    · rw [show (xs[i] == x) = true by simp [he]]
      refine cdT ?_
      rw [kLoop_ret, laws_hasInt.K0_ret, laws_hasInt.top_sr_4, hdx, he]
      exact bd res_bool (by simp)
    · rw [show (xs[i] == x) = false by simp [he]]
      refine cdF (bd f3 ?_)
      rw [kLoop_normal, ih, hdx]
      congr 3
      apply decide_eq_decide.2
      rw [List.mem_cons]
      exact ⟨.inr, fun h => h.elim (fun e => absurd e.symm he) id⟩

theorem hasInt_N (N : Nat) (hN : 1 ≤ N) {xs : List Int} {p : PV} {h : PHeap} (x : Int) (hp : IntSl .i64 h p xs) (hl : xs.length ≤ 2 ^ 36) (hf : xs.length < lf) :
    CL g lf N fn_laws_hasInt [p, .int .i64 x] h = some (.bool (decide (x ∈ xs)), h) := by
  obtain ⟨n, rfl⟩ : ∃ n, N = n + 1 := ⟨N - 1, by omega⟩
  rw [laws_hasInt.call_eq]
  have := has_loop g lf n x hp hl xs.length 0 lf (by omega) hf
  unfold laws_hasInt.main
  rw [List.drop_zero] at this
  exact this

/-! ### the exact law -/
theorem eqIntS_N {xs ys : List Int} {p q : PV} {h : PHeap} (N : Nat) (hN : 1 ≤ N) (hp : IntSl .i64 h p xs) (hq : IntSl .i64 h q ys) (hl : xs.length ≤ 2 ^ 36) (hf : xs.length < lf) :
    CL g lf N fn_laws_eqIntS [p, q] h = some (.bool (decide (xs = ys)), h) := by
  obtain ⟨n, rfl⟩ : ∃ n, N = n + 1 := ⟨N - 1, by omega⟩
  exact eqIntS_calls g lf n hp hq hl hf

end Go.Proofs.YtfgjbfaapbhppaaDoor

/- Promises 2 and 8: neighbours are so both ways; all neighbours are counted by rows and columns. -/
namespace Go.Proofs.YtfgjbfaapbhppaaDoor
open Go Go.Ip G

/-! ### of all cells of all boards -/
def ascB : List Int → Bool
  | a :: b :: l => decide (a < b) && ascB (b :: l)
  | _ => true

theorem asc_get : ∀ {L : List Int}, ascB L = true → ∀ i (hi : i + 1 < L.length), L[i] < L[i + 1]
  | [], _, i, hi => by simp at hi
  | [a], _, i, hi => by simp at hi
  | a :: b :: l, h, 0, hi => by simp only [ascB, Bool.and_eq_true, decide_eq_true_eq] at h; exact h.1
  | a :: b :: l, h, i + 1, hi => by
    simp only [ascB, Bool.and_eq_true] at h
    exact asc_get h.2 i (by simpa using hi)

def nearOk (R C K : Nat) : Bool :=
  (nearN R C K).all (fun e => decide (0 ≤ e ∧ e < ((R * C : Nat) : Int)) && decide (e ≠ (K : Int)) && decide ((K : Int) ∈ nearN R C e.toNat) && decide (((R * C : Nat) : Int) - 1 - e ∈ nearN R C (R * C - 1 - K))) &&
    ascB (nearN R C K) && decide ((nearN R C (R * C - 1 - K)).length = (nearN R C K).length)

theorem near_all : ((List.range 5).all fun R => (List.range 5).all fun C => (List.range 9).all fun K => !(decide (1 ≤ R ∧ 1 ≤ C ∧ R * C ≤ 9 ∧ K < R * C)) || nearOk R C K) = true := by kernel_rfl

theorem near_ok {R C K : Nat} (h1 : 1 ≤ R) (h2 : R ≤ 4) (h3 : 1 ≤ C) (h4 : C ≤ 4) (h9 : R * C ≤ 9) (hK : K < R * C) : nearOk R C K = true := by
  have := List.all_eq_true.1 near_all R (by rw [List.mem_range]; omega)
  have := List.all_eq_true.1 this C (by rw [List.mem_range]; omega)
  have := List.all_eq_true.1 this K (by rw [List.mem_range]; omega)
  rwa [decide_eq_true ⟨h1, h3, h9, hK⟩, Bool.not_true, Bool.false_or] at this

def sumTo (R C : Nat) : Nat → Nat
  | 0 => 0
  | i + 1 => sumTo R C i + (nearN R C i).length

theorem sum_all : ((List.range 5).all fun R => (List.range 5).all fun C => !(decide (1 ≤ R ∧ 1 ≤ C ∧ R * C ≤ 9)) || decide ((sumTo R C (R * C) : Int) = 2 * ((R : Int) * ((C : Int) - 1) + (C : Int) * ((R : Int) - 1) + ((R : Int) - 1) * ((C : Int) - 1)))) = true := by kernel_rfl

theorem sum_ok {R C : Nat} (h1 : 1 ≤ R) (h2 : R ≤ 4) (h3 : 1 ≤ C) (h4 : C ≤ 4) (h9 : R * C ≤ 9) : (sumTo R C (R * C) : Int) = 2 * ((R : Int) * ((C : Int) - 1) + (C : Int) * ((R : Int) - 1) + ((R : Int) - 1) * ((C : Int) - 1)) := by
  have := List.all_eq_true.1 sum_all R (by rw [List.mem_range]; omega)
  have := List.all_eq_true.1 this C (by rw [List.mem_range]; omega)
  rw [decide_eq_true ⟨h1, h3, h9⟩, Bool.not_true, Bool.false_or] at this
  exact of_decide_eq_true this

theorem nearN_length (R C i : Nat) : (nearN R C i).length ≤ 6 := nearFrom_length R C i steps
theorem sumTo_le (R C : Nat) : ∀ i, sumTo R C i ≤ 6 * i
  | 0 => Nat.le_refl _
  | i + 1 => by
    have := sumTo_le R C i
    have := nearN_length R C i
    rw [sumTo]; omega

theorem nearL_cell {r c k : Int} {R C K : Nat} (h : CellOf r c k R C K) : nearL r c k = nearN R C K := by
  obtain ⟨rfl, rfl, rfl, h1, h2, h3, h4, h9, hK⟩ := h
  unfold nearL cellB boardB
  have e : ((R : Int) * (C : Int)) = ((R * C : Nat) : Int) := by rw [Int.natCast_mul]
  rw [decide_eq_true ⟨by omega, by omega, by omega, by omega, by omega⟩, decide_eq_true ⟨by omega, by omega⟩, Bool.true_and, if_pos rfl]; rfl

variable (g : Nat → PV) (lf n : Nat)

theorem quo_39 {v : Int} (h0 : 0 ≤ v) (h1 : v < 40) : binP Tryd.prog .quo 3 (.int .i64 v) (.int .i64 39) = some (.int .i64 (v.tdiv 39)) ∧ 0 ≤ v.tdiv 39 ∧ v.tdiv 39 ≤ 40 := by
  have := tdiv_range h0 (show (1 : Int) ≤ 39 by decide)
  rw [bin_quo (by decide), wr (by omega)]
  exact ⟨rfl, this.1, by omega⟩

/-! ### promise 8 -/
end Go.Proofs.YtfgjbfaapbhppaaDoor

/- Promise 7 and the exact law on it: how far cells are from each other. -/
namespace Go.Proofs.YtfgjbfaapbhppaaDoor
open Go Go.Ip G

/-! ### sets of cells as numbers -/
theorem f_shr (a i : Nat) (hi : i ≤ 60) : binP Tryd.prog .shr 3 (.int .i64 (a : Int)) (.int .i64 (i : Int)) = some (.int .i64 ((a >>> i : Nat) : Int)) := by
  have h0 : ¬ ((i : Int) < 0) := by omega
  have hm : min ((i : Int).toNat) (IntKind.i64.bits) = i := by
    have : IntKind.i64.bits = 64 := rfl
    rw [this]; omega
  simp only [binP, shI, if_neg h0, hm]
  congr 2
  rw [Nat.shiftRight_eq_div_pow]
  have : ((2 : Int) ^ i) = ((2 ^ i : Nat) : Int) := by simp
  rw [this, ← Int.ofNat_fdiv]

theorem f_shl (i : Nat) (hi : i ≤ 30) : binP Tryd.prog .shl 3 (.int .i64 1) (.int .i64 (i : Int)) = some (.int .i64 ((1 <<< i : Nat) : Int)) := by
  have h0 : ¬ ((i : Int) < 0) := by omega
  have hm : min ((i : Int).toNat) (IntKind.i64.bits) = i := by
    have : IntKind.i64.bits = 64 := rfl
    rw [this]; omega
  simp only [binP, shI, if_neg h0, hm]
  congr 2
  rw [Nat.one_shiftLeft]
  have : ((2 : Int) ^ i) = ((2 ^ i : Nat) : Int) := by simp
  rw [Int.one_mul, this]
  have hle : 2 ^ i ≤ 2 ^ 30 := Nat.pow_le_pow_right (by decide) hi
  obtain ⟨z, hz⟩ : ∃ z : Nat, z = 2 ^ i := ⟨_, rfl⟩
  rw [← hz] at hle ⊢
  exact wr (by omega)

theorem natEq (y k : Nat) : ((y : Int) == (k : Int)) = decide (y = k) := by rw [Bool.eq_iff_iff, beq_iff_eq, decide_eq_true_iff, Int.ofNat_inj]

theorem f_and {a b : Nat} (ha : a < 2 ^ 62) (hb : b < 2 ^ 62) : binP Tryd.prog .and 3 (.int .i64 (a : Int)) (.int .i64 (b : Int)) = some (.int .i64 ((a &&& b : Nat) : Int)) := by
  have hz : a &&& b < 2 ^ 62 := Nat.and_lt_two_pow a hb
  have e : (BitVec.ofInt IntKind.i64.bits (a : Int) &&& BitVec.ofInt IntKind.i64.bits (b : Int)).toNat = a &&& b := by
    have hbits : IntKind.i64.bits = 64 := rfl
    rw [BitVec.toNat_and, BitVec.toNat_ofInt, BitVec.toNat_ofInt, hbits]
    congr 1 <;> omega
  have : binP Tryd.prog .and 3 (.int .i64 (a : Int)) (.int .i64 (b : Int)) = some (.int .i64 (IntKind.i64.wrap ((BitVec.ofInt IntKind.i64.bits (a : Int) &&& BitVec.ofInt IntKind.i64.bits (b : Int)).toNat : Int))) := by simp only [binP, binI, if_true]
  rw [this, e, wr (by omega)]

theorem f_or {a b : Nat} (ha : a < 2 ^ 62) (hb : b < 2 ^ 62) : binP Tryd.prog .or 3 (.int .i64 (a : Int)) (.int .i64 (b : Int)) = some (.int .i64 ((a ||| b : Nat) : Int)) := by
  have hz : a ||| b < 2 ^ 62 := Nat.or_lt_two_pow ha hb
  have e : (BitVec.ofInt IntKind.i64.bits (a : Int) ||| BitVec.ofInt IntKind.i64.bits (b : Int)).toNat = a ||| b := by
    have hbits : IntKind.i64.bits = 64 := rfl
    rw [BitVec.toNat_or, BitVec.toNat_ofInt, BitVec.toNat_ofInt, hbits]
    congr 1 <;> omega
  have : binP Tryd.prog .or 3 (.int .i64 (a : Int)) (.int .i64 (b : Int)) = some (.int .i64 (IntKind.i64.wrap ((BitVec.ofInt IntKind.i64.bits (a : Int) ||| BitVec.ofInt IntKind.i64.bits (b : Int)).toNat : Int))) := by simp only [binP, binI, if_true]
  rw [this, e, wr (by omega)]

def orAll (w : Nat) : List Int → Nat
  | [] => w
  | e :: l => orAll (w ||| (1 <<< e.toNat)) l
def wideFrom (R C S : Nat) : Nat → Nat → Nat → Nat
  | 0, _, w => w
  | m + 1, i, w => wideFrom R C S m (i + 1) (if (S >>> i) &&& 1 = 0 then w else orAll w (nearN R C i))
def wideN (R C S : Nat) : Nat := wideFrom R C S (R * C) 0 S
def farFrom (R C B : Nat) : Nat → Nat → Nat → Int
  | 0, _, _ => -1
  | m + 1, i, S => if (S >>> B) &&& 1 = 1 then (i : Int) else farFrom R C B m (i + 1) (wideN R C S)
def farN (R C A B : Nat) : Int := farFrom R C B (R * C) 0 (1 <<< A)

theorem shl_lt {i : Nat} (hi : i < 9) : 1 <<< i < 2 ^ 9 := by
  rw [Nat.one_shiftLeft]; exact Nat.pow_lt_pow_right (by decide) hi

theorem orAll_lt : ∀ (L : List Int) (w : Nat), (∀ e ∈ L, 0 ≤ e ∧ e < 9) → w < 2 ^ 9 → orAll w L < 2 ^ 9
  | [], w, _, hw => hw
  | e :: l, w, h, hw => by
    have he := h e (by simp)
    exact orAll_lt l _ (fun x hx => h x (by simp [hx])) (Nat.or_lt_two_pow hw (shl_lt (by omega)))

theorem near_in {R C K : Nat} (h1 : 1 ≤ R) (h2 : R ≤ 4) (h3 : 1 ≤ C) (h4 : C ≤ 4) (h9 : R * C ≤ 9) (hK : K < R * C) : ∀ e ∈ nearN R C K, 0 ≤ e ∧ e < ((R * C : Nat) : Int) := by
  intro e he
  have hok := near_ok h1 h2 h3 h4 h9 hK
  unfold nearOk at hok
  simp only [Bool.and_eq_true, decide_eq_true_eq] at hok
  have hall := List.all_eq_true.1 hok.1.1 e he
  simp only [Bool.and_eq_true, decide_eq_true_eq] at hall
  exact hall.1.1.1

theorem wideFrom_lt {R C S : Nat} (h1 : 1 ≤ R) (h2 : R ≤ 4) (h3 : 1 ≤ C) (h4 : C ≤ 4) (h9 : R * C ≤ 9) : ∀ (m i w : Nat), i + m = R * C → w < 2 ^ 9 → wideFrom R C S m i w < 2 ^ 9
  | 0, _, _, _, hw => hw
  | m + 1, i, w, him, hw => by
    rw [wideFrom]
    refine wideFrom_lt h1 h2 h3 h4 h9 m (i + 1) _ (by omega) ?_
    split
    · exact hw
    · exact orAll_lt _ _ (fun e he => by have := near_in h1 h2 h3 h4 h9 (show i < R * C by omega) e he; omega) hw

/-! ### what the model says -/
def farS (C A B : Nat) : Int :=
  let d := ((B / C : Nat) : Int) - ((A / C : Nat) : Int)
  let x := ((B % C : Nat) : Int) - ((A % C : Nat) : Int)
  if d < 0 then (if 0 ≤ -x then -d + -x else (if x > -d then x else -d)) else (if 0 ≤ x then d + x else (if -x > d then -x else d))

def leastFrom (C B : Nat) (x : Int) : List Int → Int
  | [] => x
  | e :: l => leastFrom C B (if farS C e.toNat B < x then farS C e.toNat B else x) l

def farOk (R C A B : Nat) : Bool :=
  decide (farN R C A B = farS C A B) && decide (0 ≤ farS C A B ∧ farS C A B ≤ 20) && decide (farS C B A = farS C A B) &&
    ((nearN R C A).all fun e => decide (farS C e.toNat B ≤ farS C A B + 1 ∧ farS C A B - 1 ≤ farS C e.toNat B)) &&
    (decide (farS C A B = 0) == decide (A = B)) && (decide (farS C A B = 1) == decide ((B : Int) ∈ nearN R C A)) &&
    (decide (farS C A B = 0) || decide (leastFrom C B 100 (nearN R C A) = farS C A B - 1))

theorem far_all : ((List.range 5).all fun R => (List.range 5).all fun C => (List.range 9).all fun A => (List.range 9).all fun B => !(decide (1 ≤ R ∧ 1 ≤ C ∧ R * C ≤ 9 ∧ A < R * C ∧ B < R * C)) || farOk R C A B) = true := by kernel_rfl

theorem far_ok {R C A B : Nat} (h1 : 1 ≤ R) (h2 : R ≤ 4) (h3 : 1 ≤ C) (h4 : C ≤ 4) (h9 : R * C ≤ 9) (hA : A < R * C) (hB : B < R * C) : farOk R C A B = true := by
  have := List.all_eq_true.1 far_all R (by rw [List.mem_range]; omega)
  have := List.all_eq_true.1 this C (by rw [List.mem_range]; omega)
  have := List.all_eq_true.1 this A (by rw [List.mem_range]; omega)
  have := List.all_eq_true.1 this B (by rw [List.mem_range]; omega)
  rwa [decide_eq_true ⟨h1, h3, h9, hA, hB⟩, Bool.not_true, Bool.false_or] at this

variable (g : Nat → PV) (lf n : Nat)

/-! ### the program -/
theorem wide_inner {L : List Int} {p : PV} {h : PHeap} (hp : IntSl .i64 h p L) (hL : ∀ e ∈ L, 0 ≤ e ∧ e < 9) (hl : L.length ≤ 10) (R C S : PV) (M : PV) (i : Nat) (hi : i ≤ 10) (K : PX → St → Res) : ∀ (m j fuel w : Nat), j + m = L.length → m < fuel → w < 2 ^ 9 →
    loopK (ev ((env g lf n).cx Tryd.prog impl_withNear.kl) impl_withNear.lp1) fuel (impl_withNear.st1 R C S (.int .i64 (w : Int)) M (.int .i64 (i : Int)) p (.int .i64 (L.length : Int)) (.int .i64 (j : Int)) h) (impl_withNear.K1 (env g lf n) K) =
      K .normal (impl_withNear.st0 R C S (.int .i64 (orAll w (L.drop j) : Int)) M (.int .i64 ((i + 1 : Nat) : Int)) h)
  | 0, j, fuel, w, hjm, hf, hw => by
    obtain ⟨f, rfl⟩ : ∃ f, fuel = f + 1 := ⟨fuel - 1, by omega⟩
    rw [loopK_succ, impl_withNear.body1_eq]
    have f1 : binP Tryd.prog .lss 3 (.int .i64 (j : Int)) (.int .i64 (L.length : Int)) = some (.bool false) := by rw [bin_lss, decide_eq_false (by omega)]
    have f2 : binP Tryd.prog .add 3 (.int .i64 (i : Int)) (.int .i64 1) = some (.int .i64 ((i + 1 : Nat) : Int)) := by rw [bin_add, nx (by omega)]
    have hd : L.drop j = [] := List.drop_eq_nil_of_le (by omega)
    unfold impl_withNear.body1
    refine bd f1 (cdF ?_)
    rw [kLoop_exit, impl_withNear.after1_se2_0_1_2_7_14_15_26_27_28_29, hd]
    exact bd f2 rfl
  | m + 1, j, fuel, w, hjm, hf, hw => by
    obtain ⟨f, rfl⟩ : ∃ f, fuel = f + 1 := ⟨fuel - 1, by omega⟩
    have hj : j < L.length := by omega
    obtain ⟨a, ha, hla⟩ := hp.at' hj
    have he := hL _ (List.getElem_mem hj)
    obtain ⟨E, hE⟩ := Int.eq_ofNat_of_zero_le he.1
    rw [hE] at hla
    have hE9 : E < 9 := by omega
    have ih := wide_inner hp hL hl R C S M i hi K m (j + 1) f (w ||| (1 <<< E)) (by omega) (by omega) (Nat.or_lt_two_pow hw (shl_lt hE9))
    have f1 : binP Tryd.prog .lss 3 (.int .i64 (j : Int)) (.int .i64 (L.length : Int)) = some (.bool true) := by rw [bin_lss, decide_eq_true (by omega)]
    have f2 := f_shl E (by omega)
    have f3 := f_or (a := w) (b := 1 <<< E) (by omega) (by have := shl_lt hE9; omega)
    have f4 : binP Tryd.prog .add 3 (.int .i64 (j : Int)) (.int .i64 1) = some (.int .i64 ((j + 1 : Nat) : Int)) := by rw [bin_add, nx (by omega)]
    have hdx : L.drop j = L[j] :: L.drop (j + 1) := List.drop_eq_getElem_cons hj
    rw [loopK_succ, impl_withNear.body1_eq, hdx, orAll, hE, show ((E : Int).toNat) = E from rfl]
    unfold impl_withNear.body1
    exact bd f1 (cdT (bd ha (bd hla (bd f2 (bd f3 (bd f4 ih))))))

theorem wide_loop {R C S : Nat} (h1 : 1 ≤ R) (h2 : R ≤ 4) (h3 : 1 ≤ C) (h4 : C ≤ 4) (h9 : R * C ≤ 9) (hS : S < 2 ^ 9) (hn : 4 ≤ n) (hlf : 20 < lf) : ∀ (m i fuel w : Nat) (h : PHeap), i + m = R * C → m < fuel → w < 2 ^ 9 → Tab g h →
    ∃ h', loopK (ev ((env g lf n).cx Tryd.prog impl_withNear.kl) impl_withNear.lp0) fuel (impl_withNear.st0 (.int .i64 (R : Int)) (.int .i64 (C : Int)) (.int .i64 (S : Int)) (.int .i64 (w : Int)) (.int .i64 ((R * C : Nat) : Int)) (.int .i64 (i : Int)) h) (impl_withNear.K0 (env g lf n) (kTop Tryd.prog Tryd.f69)) = some (.int .i64 (wideFrom R C S m i w : Int), h') ∧ Keep h.length h h'
  | 0, i, fuel, w, h, him, hf, hw, ht => by
    obtain ⟨f, rfl⟩ : ∃ f, fuel = f + 1 := ⟨fuel - 1, by omega⟩
    refine ⟨h, ?_, Keep.refl _ _⟩
    rw [loopK_succ, impl_withNear.body0_eq]
    have f1 : binP Tryd.prog .lss 3 (.int .i64 (i : Int)) (.int .i64 ((R * C : Nat) : Int)) = some (.bool false) := by rw [bin_lss, decide_eq_false (by omega)]
    unfold impl_withNear.body0
    refine bd f1 (cdF ?_)
    rw [kLoop_exit, impl_withNear.after0_se0_0_1_2_7_14_15_16]
    exact bd res_int rfl
  | m + 1, i, fuel, w, h, him, hf, hw, ht => by
    obtain ⟨f, rfl⟩ : ∃ f, fuel = f + 1 := ⟨fuel - 1, by omega⟩
    have f1 : binP Tryd.prog .lss 3 (.int .i64 (i : Int)) (.int .i64 ((R * C : Nat) : Int)) = some (.bool true) := by rw [bin_lss, decide_eq_true (by omega)]
    have f2 := f_shr S i (by omega)
    have hsh : S >>> i < 2 ^ 62 := by
      have : S >>> i ≤ S := by rw [Nat.shiftRight_eq_div_pow]; exact Nat.div_le_self _ _
      omega
    have f3 := f_and (a := S >>> i) (b := 1) hsh (by decide)
    have f4 : binP Tryd.prog .eql 3 (.int .i64 ((S >>> i &&& 1 : Nat) : Int)) (.int .i64 0) = some (.bool (decide (S >>> i &&& 1 = 0))) := by
      rw [bin_eql]; exact congrArg (fun z => some (PV.bool z)) (natEq _ 0)
    have f5 : binP Tryd.prog .add 3 (.int .i64 (i : Int)) (.int .i64 1) = some (.int .i64 ((i + 1 : Nat) : Int)) := by rw [bin_add, nx (by omega)]
    rw [wideFrom]
    by_cases hb : S >>> i &&& 1 = 0
    · rw [if_pos hb]
      rw [decide_eq_true hb] at f4
      obtain ⟨h', ih, k⟩ := wide_loop h1 h2 h3 h4 h9 hS hn hlf m (i + 1) f w h (by omega) (by omega) hw ht
      refine ⟨h', ?_, k⟩
      rw [loopK_succ, impl_withNear.body0_eq]
      unfold impl_withNear.body0
      exact bd f1 (cdT (bd f2 (bd f3 (bd f4 (cdT (bd f5 ih))))))
    · rw [if_neg hb]
      rw [decide_eq_false hb] at f4
      obtain ⟨q', h1', eN, oN, kN⟩ := nearCells_calls g lf n hn hlf ht (R : Int) (C : Int) (i : Int)
      rw [nearL_cell (⟨rfl, rfl, rfl, h1, h2, h3, h4, h9, by omega⟩ : CellOf (R : Int) (C : Int) (i : Int) R C i)] at oN
      have hl := nearN_length R C i
      have hin : ∀ e ∈ nearN R C i, 0 ≤ e ∧ e < 9 := fun e he => by have := near_in h1 h2 h3 h4 h9 (show i < R * C by omega) e he; omega
      obtain ⟨h', ih, k⟩ := wide_loop h1 h2 h3 h4 h9 hS hn hlf m (i + 1) f (orAll w (nearN R C i)) h1' (by omega) (by omega) (orAll_lt _ _ hin hw) (ht.keep kN)
      have inner := wide_inner g lf n oN.int hin (by omega) (.int .i64 (R : Int)) (.int .i64 (C : Int)) (.int .i64 (S : Int)) (.int .i64 ((R * C : Nat) : Int)) i (by omega) (kLoop (ev ((env g lf n).cx Tryd.prog impl_withNear.kl) impl_withNear.lp0) f (impl_withNear.K0 (env g lf n) (kTop Tryd.prog Tryd.f69))) (nearN R C i).length 0 lf w (by omega) (by omega) hw
      rw [List.drop_zero] at inner
      refine ⟨h', ?_, kN.trans (k.mono kN.1)⟩
      rw [loopK_succ, impl_withNear.body0_eq]
      unfold impl_withNear.body0
      exact bd f1 (cdT (bd f2 (bd f3 (bd f4 (cdF (bd eN (bd oN.int.len' (inner.trans ih))))))))

theorem withNear_calls {R C S : Nat} (h1 : 1 ≤ R) (h2 : R ≤ 4) (h3 : 1 ≤ C) (h4 : C ≤ 4) (h9 : R * C ≤ 9) (hS : S < 2 ^ 9) (N : Nat) (hN : 5 ≤ N) (hlf : 20 < lf) {h : PHeap} (ht : Tab g h) :
    ∃ h', CL g lf N fn_impl_withNear [.int .i64 (R : Int), .int .i64 (C : Int), .int .i64 (S : Int)] h = some (.int .i64 (wideN R C S : Int), h') ∧ Keep h.length h h' := by
  obtain ⟨n, rfl⟩ : ∃ n, N = n + 1 := ⟨N - 1, by omega⟩
  rw [impl_withNear.call_eq]
  obtain ⟨h', e, k⟩ := wide_loop g lf n h1 h2 h3 h4 h9 hS (by omega) hlf (R * C) 0 lf S h (by omega) (by omega) hS ht
  refine ⟨h', ?_, k⟩
  unfold impl_withNear.main
  exact bd (f_mul R C (by omega)) e

def farL (r c a b : Int) : Int := if (cellB r c a && cellB r c b) = true then farS c.toNat a.toNat b.toNat else -1

theorem far_eq {R C A B : Nat} (h1 : 1 ≤ R) (h2 : R ≤ 4) (h3 : 1 ≤ C) (h4 : C ≤ 4) (h9 : R * C ≤ 9) (hA : A < R * C) (hB : B < R * C) : farN R C A B = farS C A B := by
  have := far_ok h1 h2 h3 h4 h9 hA hB
  unfold farOk at this
  simp only [Bool.and_eq_true, decide_eq_true_eq] at this
  exact this.1.1.1.1.1.1

theorem f_sub (a b : Int) (h : -1000 ≤ a - b ∧ a - b ≤ 1000) : binP Tryd.prog .sub 3 (.int .i64 a) (.int .i64 b) = some (.int .i64 (a - b)) := by rw [bin_sub, wr (by omega)]
theorem f_addI (a b : Int) (h : -1000 ≤ a + b ∧ a + b ≤ 1000) : binP Tryd.prog .add 3 (.int .i64 a) (.int .i64 b) = some (.int .i64 (a + b)) := by rw [bin_add, wr (by omega)]
theorem f_neg (a : Int) (h : -1000 ≤ a ∧ a ≤ 1000) : unP .neg (.int .i64 a) = some (.int .i64 (-a)) := by rw [un_neg, wr (by omega), show 0 - a = -a by omega]

end Go.Proofs.YtfgjbfaapbhppaaDoor

/- Sets of cells as bits: what grows, what is reached, and at what cost. No program text. -/
namespace Go.Proofs.YtfgjbfaapbhppaaDoor

theorem bit_iff (x k : Nat) : x >>> k % 2 = 1 ↔ x.testBit k = true := by
  rw [Nat.testBit_eq_decide_div_mod_eq, Nat.shiftRight_eq_div_pow, decide_eq_true_iff]

/-- Cell j is beside cell k: the masks tell the neighbours of each cell. -/
def Adj (M : List Nat) (k j : Nat) : Prop := (M.getD k 0).testBit j = true

inductive Reach (M : List Nat) (set fr : Nat) : Nat → Prop
  | start {j} (h : fr.testBit j = true) (hs : set.testBit j = true) : Reach M set fr j
  | step {k j} (h : Reach M set fr k) (ha : Adj M k j) (hs : set.testBit j = true) : Reach M set fr j

theorem Reach.inSet {M : List Nat} {set fr j : Nat} (h : Reach M set fr j) : set.testBit j = true := by
  cases h <;> assumption

theorem Reach.mono {M : List Nat} {set fr set' fr' : Nat} (hs : ∀ j, set.testBit j = true → set'.testBit j = true) (hf : ∀ j, fr.testBit j = true → fr'.testBit j = true) {j : Nat} (h : Reach M set fr j) : Reach M set' fr' j := by
  induction h with
  | start h h' => exact .start (hf _ h) (hs _ h')
  | step _ ha h' ih => exact .step ih ha (hs _ h')

theorem Reach.trans {M : List Nat} {set fr fr' : Nat} (hf : ∀ j, fr'.testBit j = true → Reach M set fr j) {j : Nat} (h : Reach M set fr' j) : Reach M set fr j := by
  induction h with
  | start h _ => exact hf _ h
  | step _ ha h' ih => exact .step ih ha h'

theorem one_bit (k j : Nat) : (1 <<< k).testBit j = decide (j = k) := by
  rw [Nat.one_shiftLeft, Nat.testBit_two_pow]
  by_cases h : j = k
  · subst h; simp
  · simp [h]; exact fun e => h e.symm

/-- From one cell to another, and back. -/
theorem Reach.back {M : List Nat} (sym : ∀ k j, Adj M k j → Adj M j k) {set a b : Nat} (ha : set.testBit a = true) (h : Reach M set (1 <<< a) b) : Reach M set (1 <<< b) a := by
  induction h with
  | @start j h _ =>
    rw [one_bit] at h
    have : j = a := of_decide_eq_true h
    subst this
    exact .start (by rw [one_bit]; simp) ha
  | @step k j _ hk hj ih =>
    refine ih.trans fun i hi => ?_
    rw [one_bit] at hi
    have : i = k := of_decide_eq_true hi
    subst this
    rename_i hk'
    exact .step (.start (by rw [one_bit]; simp) hj) (sym _ _ hk) hk'.inSet

/-! ### growing -/
def stepFrom (set now : Nat) : Nat → List Nat → Nat → Nat
  | _, [], nx => nx
  | k, m :: ms, nx => stepFrom set now (k + 1) ms (if now >>> k % 2 = 1 then nx ||| (m &&& set) else nx)

theorem stepFrom_le (set now : Nat) : ∀ (ms : List Nat) (k nx : Nat), nx ≤ stepFrom set now k ms nx
  | [], _, _ => Nat.le_refl _
  | m :: ms, k, nx => by
    rw [stepFrom]
    refine Nat.le_trans ?_ (stepFrom_le set now ms (k + 1) _)
    split
    · exact Nat.left_le_or
    · exact Nat.le_refl _

theorem stepFrom_bit (set now : Nat) (j : Nat) : ∀ (ms : List Nat) (k nx : Nat), (stepFrom set now k ms nx).testBit j = true ↔ nx.testBit j = true ∨ ∃ i, now.testBit (k + i) = true ∧ (ms.getD i 0).testBit j = true ∧ set.testBit j = true
  | [], k, nx => by simp [stepFrom]
  | m :: ms, k, nx => by
    rw [stepFrom, stepFrom_bit set now j ms (k + 1)]
    have hsplit : (∃ i, now.testBit (k + i) = true ∧ ((m :: ms).getD i 0).testBit j = true ∧ set.testBit j = true) ↔ (now.testBit k = true ∧ m.testBit j = true ∧ set.testBit j = true) ∨ ∃ i, now.testBit (k + 1 + i) = true ∧ (ms.getD i 0).testBit j = true ∧ set.testBit j = true := by
      constructor
      · rintro ⟨i, h⟩
        cases i with
        | zero => exact .inl (by simpa using h)
        | succ i => exact .inr ⟨i, by rw [show k + 1 + i = k + (i + 1) by omega]; simpa using h⟩
      · rintro (h | ⟨i, h⟩)
        · exact ⟨0, by simpa using h⟩
        · exact ⟨i + 1, by rw [show k + (i + 1) = k + 1 + i by omega]; simpa using h⟩
    rw [hsplit]
    by_cases hb : now >>> k % 2 = 1
    · rw [if_pos hb, Nat.testBit_or, Nat.testBit_and]
      have hb' := (bit_iff now k).1 hb
      simp [hb', or_assoc]
    · rw [if_neg hb]
      have hb' : ¬ now.testBit k = true := fun h => hb ((bit_iff now k).2 h)
      simp [hb']

def growF (M : List Nat) (set : Nat) : Nat → Nat → Nat
  | 0, now => now
  | f + 1, now => if stepFrom set now 0 M now = now then now else growF M set f (stepFrom set now 0 M now)
def growN (M : List Nat) (set fr : Nat) : Nat := growF M set 600 (fr &&& set)

theorem sub_and {a b : Nat} (h : ∀ j, a.testBit j = true → b.testBit j = true) : a &&& b = a := by
  apply Nat.eq_of_testBit_eq
  intro j
  rw [Nat.testBit_and]
  cases e : a.testBit j with
  | false => rfl
  | true => rw [h j e]; rfl

theorem sub_le {a b : Nat} (h : ∀ j, a.testBit j = true → b.testBit j = true) : a ≤ b := by
  rw [← sub_and h]; exact Nat.and_le_right

theorem step_sub {M : List Nat} {set now : Nat} (h : ∀ j, now.testBit j = true → set.testBit j = true) : ∀ j, (stepFrom set now 0 M now).testBit j = true → set.testBit j = true := by
  intro j hj
  rcases (stepFrom_bit set now j M 0 now).1 hj with hj | ⟨_, _, _, hj⟩
  · exact h j hj
  · exact hj

theorem growF_fix {M : List Nat} {set : Nat} : ∀ (f now : Nat), (∀ j, now.testBit j = true → set.testBit j = true) → set < now + f → stepFrom set (growF M set f now) 0 M (growF M set f now) = growF M set f now ∧ (∀ j, now.testBit j = true → (growF M set f now).testBit j = true)
  | 0, now, hs, hf => by have := sub_le hs; omega
  | f + 1, now, hs, hf => by
    rw [growF]
    split
    · rename_i h; exact ⟨h, fun _ h => h⟩
    · rename_i h
      have hle := stepFrom_le set now M 0 now
      have ih := growF_fix (M := M) f (stepFrom set now 0 M now) (step_sub hs) (by omega)
      exact ⟨ih.1, fun j hj => ih.2 j ((stepFrom_bit set now j M 0 now).2 (.inl hj))⟩

theorem growF_reach {M : List Nat} {set fr : Nat} : ∀ (f now : Nat), (∀ j, now.testBit j = true → Reach M set fr j) → ∀ j, (growF M set f now).testBit j = true → Reach M set fr j
  | 0, now, hs, j, hj => hs j hj
  | f + 1, now, hs, j, hj => by
    rw [growF] at hj
    split at hj
    · exact hs j hj
    · refine growF_reach f _ (fun i hi => ?_) j hj
      rcases (stepFrom_bit set now i M 0 now).1 hi with hi | ⟨k, h1, h2, h3⟩
      · exact hs i hi
      · rw [Nat.zero_add] at h1
        exact .step (hs k h1) h2 h3

theorem grow_bit {M : List Nat} {set fr : Nat} (hset : set < 2 ^ 9) (j : Nat) : (growN M set fr).testBit j = true ↔ Reach M set fr j := by
  have hsub : ∀ j, (fr &&& set).testBit j = true → set.testBit j = true := fun j hj => by rw [Nat.testBit_and, Bool.and_eq_true] at hj; exact hj.2
  constructor
  · refine growF_reach 600 _ (fun i hi => ?_) j
    rw [Nat.testBit_and, Bool.and_eq_true] at hi
    exact .start hi.1 hi.2
  · obtain ⟨hfix, hin⟩ := growF_fix (M := M) 600 (fr &&& set) hsub (by omega)
    intro h
    induction h with
    | start h hs => exact hin _ (by rw [Nat.testBit_and, h, hs]; rfl)
    | @step k j _ ha hs ih =>
      unfold growN at ih ⊢
      rw [← hfix]
      exact (stepFrom_bit set _ j M 0 _).2 (.inr ⟨k, by rw [Nat.zero_add]; exact ih, ha, hs⟩)

theorem grow_lt {M : List Nat} {set fr : Nat} (hset : set < 2 ^ 9) : growN M set fr < 2 ^ 9 :=
  Nat.lt_of_le_of_lt (sub_le fun j hj => ((grow_bit hset j).1 hj).inSet) hset

/-! ### at what cost -/
/-- Cell j is reached from the edge over own cells and at most k free ones. -/
inductive Cost (M : List Nat) (edge own free : Nat) : Nat → Nat → Prop
  | ownEdge {k j} (h : edge.testBit j = true) (ho : own.testBit j = true) : Cost M edge own free k j
  | freeEdge {k j} (h : edge.testBit j = true) (hf : free.testBit j = true) : Cost M edge own free (k + 1) j
  | ownStep {k i j} (h : Cost M edge own free k i) (ha : Adj M i j) (ho : own.testBit j = true) : Cost M edge own free k j
  | freeStep {k i j} (h : Cost M edge own free k i) (ha : Adj M i j) (hf : free.testBit j = true) : Cost M edge own free (k + 1) j

theorem Cost.more {M : List Nat} {edge own free k j : Nat} (h : Cost M edge own free k j) : Cost M edge own free (k + 1) j := by
  induction h with
  | ownEdge h ho => exact .ownEdge h ho
  | freeEdge h hf => exact .freeEdge h hf
  | ownStep _ ha ho ih => exact .ownStep ih ha ho
  | freeStep _ ha hf ih => exact .freeStep ih ha hf

theorem Cost.le {M : List Nat} {edge own free k k' j : Nat} (h : Cost M edge own free k j) (hk : k ≤ k') : Cost M edge own free k' j := by
  obtain ⟨d, rfl⟩ : ∃ d, k' = k + d := ⟨k' - k, by omega⟩
  clear hk
  induction d with
  | zero => exact h
  | succ d ih => exact ih.more

/-- Own cells more, free cells that are now own: no dearer. -/
theorem Cost.mono {M : List Nat} {edge own free own' free' : Nat} (ho : ∀ j, own.testBit j = true → own'.testBit j = true) (hf : ∀ j, free.testBit j = true → own'.testBit j = true ∨ free'.testBit j = true) {k j : Nat} (h : Cost M edge own free k j) : Cost M edge own' free' k j := by
  induction h with
  | ownEdge h h' => exact .ownEdge h (ho _ h')
  | freeEdge h h' =>
    rcases hf _ h' with h' | h'
    · exact .ownEdge h h'
    · exact .freeEdge h h'
  | ownStep _ ha h' ih => exact .ownStep ih ha (ho _ h')
  | freeStep _ ha h' ih =>
    rcases hf _ h' with h' | h'
    · exact (Cost.ownStep ih ha h').more
    · exact .freeStep ih ha h'

/-- One own cell more, at c, makes it cheaper by one at most. -/
theorem Cost.less {M : List Nat} {edge own free own' free' c : Nat} (hc : free.testBit c = true) (ho : ∀ j, own'.testBit j = true → own.testBit j = true ∨ j = c) (hf : ∀ j, free'.testBit j = true → free.testBit j = true) {k j : Nat} (h : Cost M edge own' free' k j) :
    Cost M edge own free k j ∨ (Cost M edge own free (k + 1) j ∧ Cost M edge own free (k + 1) c) := by
  induction h with
  | ownEdge h h' =>
    rcases ho _ h' with h' | rfl
    · exact .inl (.ownEdge h h')
    · exact .inr ⟨.freeEdge h hc, .freeEdge h hc⟩
  | freeEdge h h' => exact .inl (.freeEdge h (hf _ h'))
  | ownStep _ ha h' ih =>
    rcases ho _ h' with h' | rfl
    · rcases ih with ih | ⟨ih, ih2⟩
      · exact .inl (.ownStep ih ha h')
      · exact .inr ⟨.ownStep ih ha h', ih2⟩
    · rcases ih with ih | ⟨_, ih2⟩
      · exact .inr ⟨.freeStep ih ha hc, .freeStep ih ha hc⟩
      · exact .inr ⟨ih2, ih2⟩
  | freeStep _ ha h' ih =>
    rcases ih with ih | ⟨ih, ih2⟩
    · exact .inl (.freeStep ih ha (hf _ h'))
    · exact .inr ⟨.freeStep ih ha (hf _ h'), ih2.more⟩

/-- What is dear by one more is so by some free cell: with that one own it is not. -/
theorem Cost.cell {M : List Nat} {edge own free k j : Nat} (h : Cost M edge own free (k + 1) j) :
    Cost M edge own free k j ∨ ∃ c, free.testBit c = true ∧ ∀ own' free', (∀ j, own.testBit j = true → own'.testBit j = true) → own'.testBit c = true → (∀ j, free.testBit j = true → own'.testBit j = true ∨ free'.testBit j = true) → Cost M edge own' free' k j := by
  generalize hk : k + 1 = k' at h
  induction h generalizing k with
  | ownEdge h h' => exact .inl (.ownEdge h h')
  | @freeEdge k0 j h h' => exact .inr ⟨j, h', fun own' free' _ hc _ => .ownEdge h hc⟩
  | ownStep _ ha h' ih =>
    rcases ih hk with ih | ⟨c, hc, ih⟩
    · exact .inl (.ownStep ih ha h')
    · exact .inr ⟨c, hc, fun own' free' ho hoc hf => .ownStep (ih own' free' ho hoc hf) ha (ho _ h')⟩
  | @freeStep k0 i j h0 ha h' _ =>
    obtain rfl : k = k0 := by omega
    exact .inr ⟨j, h', fun own' free' ho hoc hf => .ownStep (h0.mono ho hf) ha hoc⟩

theorem cost_zero {M : List Nat} {edge own free j : Nat} : Cost M edge own free 0 j ↔ Reach M own edge j := by
  constructor
  · intro h
    generalize hk : 0 = k at h
    induction h with
    | ownEdge h ho => exact .start h ho
    | freeEdge => cases hk
    | ownStep _ ha ho ih => exact .step (ih hk) ha ho
    | freeStep => cases hk
  · intro h
    induction h with
    | start h hs => exact .ownEdge h hs
    | step _ ha hs ih => exact .ownStep ih ha hs

theorem cost_any {M : List Nat} {edge own free j : Nat} : (∃ k, Cost M edge own free k j) ↔ Reach M (own ||| free) edge j := by
  constructor
  · rintro ⟨k, h⟩
    induction h with
    | ownEdge h ho => exact .start h (by rw [Nat.testBit_or, ho]; rfl)
    | freeEdge h hf => exact .start h (by rw [Nat.testBit_or, hf, Bool.or_true])
    | ownStep _ ha ho ih => exact .step ih ha (by rw [Nat.testBit_or, ho]; rfl)
    | freeStep _ ha hf ih => exact .step ih ha (by rw [Nat.testBit_or, hf, Bool.or_true])
  · intro h
    induction h with
    | start h hs =>
      rw [Nat.testBit_or, Bool.or_eq_true] at hs
      rcases hs with hs | hs
      · exact ⟨0, .ownEdge h hs⟩
      · exact ⟨1, .freeEdge h hs⟩
    | step _ ha hs ih =>
      obtain ⟨k, ih⟩ := ih
      rw [Nat.testBit_or, Bool.or_eq_true] at hs
      rcases hs with hs | hs
      · exact ⟨k, .ownStep ih ha hs⟩
      · exact ⟨k + 1, .freeStep ih ha hs⟩

end Go.Proofs.YtfgjbfaapbhppaaDoor

/- Gaps: waves of cost tell the least number of free cells. No program text. -/
namespace Go.Proofs.YtfgjbfaapbhppaaDoor

def gapF (M : List Nat) (own free edge last : Nat) : Nat → Nat → Nat → Int
  | 0, _, _ => -1
  | m + 1, cost, now =>
    if growN M (own ||| now) (now ||| (edge &&& own)) &&& last = 0 then
      if stepFrom free (growN M (own ||| now) (now ||| (edge &&& own))) 0 M (growN M (own ||| now) (now ||| (edge &&& own)) ||| (edge &&& free)) = growN M (own ||| now) (now ||| (edge &&& own)) then -1
      else gapF M own free edge last m (cost + 1) (stepFrom free (growN M (own ||| now) (now ||| (edge &&& own))) 0 M (growN M (own ||| now) (now ||| (edge &&& own)) ||| (edge &&& free)))
    else (cost : Int)
def gapN (M : List Nat) (own free edge last n : Nat) : Int := gapF M own free edge last (n + 1) 0 0

/-- The last side is reached at cost k. -/
def Hits (M : List Nat) (own free edge last k : Nat) : Prop := ∃ j, last.testBit j = true ∧ Cost M edge own free k j
def IsGap (M : List Nat) (own free edge last k : Nat) : Prop := Hits M own free edge last k ∧ ∀ i, i < k → ¬ Hits M own free edge last i

theorem Hits.le {M : List Nat} {own free edge last k k' : Nat} (h : Hits M own free edge last k) (hk : k ≤ k') : Hits M own free edge last k' := by
  obtain ⟨j, hj, h⟩ := h; exact ⟨j, hj, h.le hk⟩

theorem IsGap.unique {M : List Nat} {own free edge last k k' : Nat} (h : IsGap M own free edge last k) (h' : IsGap M own free edge last k') : k = k' := by
  rcases Nat.lt_trichotomy k k' with hlt | e | hgt
  · exact absurd h.1 (h'.2 k hlt)
  · exact e
  · exact absurd h'.1 (h.2 k' hgt)

theorem hits_least {M : List Nat} {own free edge last : Nat} : ∀ k, Hits M own free edge last k → ∃ i, i ≤ k ∧ IsGap M own free edge last i
  | 0, h => ⟨0, Nat.le_refl _, h, fun i hi => by omega⟩
  | k + 1, h => by
    by_cases hk : Hits M own free edge last k
    · obtain ⟨i, hi, hg⟩ := hits_least k hk
      exact ⟨i, by omega, hg⟩
    · exact ⟨k + 1, Nat.le_refl _, h, fun i hi hh => hk (hh.le (by omega))⟩

theorem and_zero {a b : Nat} : a &&& b = 0 ↔ ∀ j, a.testBit j = true → b.testBit j = true → False := by
  constructor
  · intro h j ha hb
    have := congrArg (fun x => x.testBit j) h
    simp [Nat.testBit_and, ha, hb] at this
  · intro h
    apply Nat.eq_of_testBit_eq
    intro j
    rw [Nat.testBit_and, Nat.zero_testBit]
    cases ha : a.testBit j with
    | false => rfl
    | true =>
      cases hb : b.testBit j with
      | false => rfl
      | true => exact (h j ha hb).elim

/-- What is taken away. -/
def without (x c : Nat) : Nat := x ^^^ (x &&& (1 <<< c))
theorem without_bit (x c j : Nat) : (without x c).testBit j = (x.testBit j && decide (j ≠ c)) := by
  unfold without
  rw [Nat.testBit_xor, Nat.testBit_and, one_bit]
  by_cases h : j = c
  · subst h; simp
  · simp [h]
theorem with_bit (x c j : Nat) : (x ||| (1 <<< c)).testBit j = (x.testBit j || decide (j = c)) := by rw [Nat.testBit_or, one_bit]

section
variable {M : List Nat} {own free edge last : Nat}

/-- With a stone more a gap is as great, or one less. -/
theorem gap_more {k c : Nat} (hc : free.testBit c = true) (h : IsGap M own free edge last k) : IsGap M (own ||| (1 <<< c)) (without free c) edge last k ∨ (1 ≤ k ∧ IsGap M (own ||| (1 <<< c)) (without free c) edge last (k - 1)) := by
  have mono : ∀ i, Hits M own free edge last i → Hits M (own ||| (1 <<< c)) (without free c) edge last i := fun i ⟨j, hj, hcost⟩ =>
    ⟨j, hj, hcost.mono (fun x hx => by rw [with_bit, hx]; rfl) (fun x hx => by
      rw [with_bit, without_bit, hx]
      by_cases e : x = c
      · exact .inl (by simp [e])
      · exact .inr (by simp [e]))⟩
  have less : ∀ i, Hits M (own ||| (1 <<< c)) (without free c) edge last i → Hits M own free edge last (i + 1) := fun i ⟨j, hj, hcost⟩ => by
    refine ⟨j, hj, ?_⟩
    rcases hcost.less (own := own) (free := free) hc (fun x hx => by rw [with_bit, Bool.or_eq_true] at hx; exact hx.imp id (fun e => of_decide_eq_true e)) (fun x hx => by rw [without_bit, Bool.and_eq_true] at hx; exact hx.1) with h | ⟨h, _⟩
    · exact h.more
    · exact h
  obtain ⟨i, hi, hg⟩ := hits_least k (mono k h.1)
  have : k ≤ i + 1 := by
    rcases Nat.lt_or_ge (i + 1) k with hlt | hge
    · exact absurd (less i hg.1) (h.2 _ hlt)
    · exact hge
  by_cases e : i = k
  · subst e; exact .inl hg
  · exact .inr ⟨by omega, by rw [show k - 1 = i by omega]; exact hg⟩

/-- There is a cell that makes it one less. -/
theorem gap_cell {k : Nat} (h : IsGap M own free edge last (k + 1)) : ∃ c, free.testBit c = true ∧ IsGap M (own ||| (1 <<< c)) (without free c) edge last k := by
  obtain ⟨⟨j, hj, hcost⟩, hno⟩ := id h
  rcases hcost.cell with hc | ⟨c, hc, hall⟩
  · exact absurd ⟨j, hj, hc⟩ (hno k (by omega))
  · refine ⟨c, hc, ?_⟩
    have hit : Hits M (own ||| (1 <<< c)) (without free c) edge last k := ⟨j, hj, hall _ _ (fun x hx => by rw [with_bit, hx]; rfl) (by rw [with_bit]; simp) (fun x hx => by
      rw [with_bit, without_bit, hx]
      by_cases e : x = c
      · exact .inl (by simp [e])
      · exact .inr (by simp [e]))⟩
    rcases gap_more hc h with hg | ⟨_, hg⟩
    · exact absurd hit (hg.2 k (by omega))
    · exact hg

/-- With nothing more at a cost, nothing is ever reached. -/
theorem hits_closed {k : Nat} (hcl : ∀ j, Cost M edge own free (k + 1) j → Cost M edge own free k j) : ∀ k' j, Cost M edge own free k' j → Cost M edge own free k j := by
  intro k' j h
  induction h with
  | ownEdge h ho => exact .ownEdge h ho
  | freeEdge h hf => exact hcl _ (.freeEdge h hf)
  | ownStep _ ha ho ih => exact .ownStep ih ha ho
  | freeStep _ ha hf ih => exact hcl _ (.freeStep ih ha hf)

end

/-! ### how many -/
def pop (x : Nat) : Nat := (List.range 9).countP fun j => x.testBit j

theorem countP_lt {α : Type} {p q : α → Bool} : ∀ {l : List α} {c : α}, (∀ x ∈ l, q x = true → p x = true) → c ∈ l → p c = true → q c = false → l.countP q + 1 ≤ l.countP p
  | [], _, _, hc, _, _ => by simp at hc
  | x :: l, c, hpq, hc, hp, hq => by
    rw [List.countP_cons, List.countP_cons]
    have hle : l.countP q ≤ l.countP p := List.countP_mono_left fun y hy h => hpq y (by simp [hy]) h
    rcases List.mem_cons.1 hc with rfl | hc
    · simp [hp, hq]; omega
    · have ih := countP_lt (fun y hy h => hpq y (by simp [hy]) h) hc hp hq
      by_cases hqx : q x = true
      · have := hpq x (by simp) hqx
        simp [hqx, this]; omega
      · simp [hqx]; omega

theorem bit_small {x n j : Nat} (hx : x < 2 ^ n) (h : x.testBit j = true) : j < n := by
  rcases Nat.lt_or_ge j n with hlt | hge
  · exact hlt
  · rw [Nat.testBit_lt_two_pow (Nat.lt_of_lt_of_le hx (Nat.pow_le_pow_right (by decide) hge))] at h; cases h

theorem pop_without {x c : Nat} (hx : x < 2 ^ 9) (hc : x.testBit c = true) : pop (without x c) + 1 ≤ pop x :=
  countP_lt (c := c) (fun j _ h => by rw [without_bit, Bool.and_eq_true] at h; exact h.1) (by rw [List.mem_range]; exact bit_small hx hc) hc (by rw [without_bit]; simp)

theorem without_lt {x c n : Nat} (hx : x < 2 ^ n) : without x c < 2 ^ n :=
  Nat.lt_of_le_of_lt (sub_le fun j hj => by rw [without_bit, Bool.and_eq_true] at hj; exact hj.1) hx

theorem gap_pop {M : List Nat} {edge last : Nat} : ∀ {k own free : Nat}, free < 2 ^ 9 → IsGap M own free edge last k → k ≤ pop free
  | 0, _, _, _, _ => Nat.zero_le _
  | k + 1, own, free, hf, h => by
    obtain ⟨c, hc, hg⟩ := gap_cell h
    have := gap_pop (without_lt hf) hg
    have := pop_without hf hc
    omega

theorem pop_le {n x : Nat} (hn : n ≤ 9) (hx : x < 2 ^ n) : pop x ≤ n := by
  unfold pop
  have : (List.range 9).countP (fun j => x.testBit j) ≤ (List.range 9).countP (fun j => decide (j < n)) :=
    List.countP_mono_left fun j _ h => decide_eq_true (bit_small hx h)
  refine Nat.le_trans this ?_
  have : n = 0 ∨ n = 1 ∨ n = 2 ∨ n = 3 ∨ n = 4 ∨ n = 5 ∨ n = 6 ∨ n = 7 ∨ n = 8 ∨ n = 9 := by omega
  rcases this with rfl | rfl | rfl | rfl | rfl | rfl | rfl | rfl | rfl | rfl <;> decide

/-! ### the waves -/
section
variable {M : List Nat} {own free edge last : Nat}

theorem wave_zero (ho : own < 2 ^ 9) (j : Nat) : (growN M (own ||| 0) (0 ||| (edge &&& own))).testBit j = true ↔ Cost M edge own free 0 j := by
  rw [Nat.or_zero, Nat.zero_or, grow_bit ho, cost_zero]
  constructor
  · exact Reach.mono (fun _ h => h) (fun j h => by rw [Nat.testBit_and, Bool.and_eq_true] at h; exact h.1)
  · intro h
    induction h with
    | start h hs => exact .start (by rw [Nat.testBit_and, h, hs]; rfl) hs
    | step _ ha hs ih => exact .step ih ha hs

theorem next_bit {g k : Nat} (hg : ∀ j, g.testBit j = true ↔ Cost M edge own free k j) (j : Nat) :
    (stepFrom free g 0 M (g ||| (edge &&& free))).testBit j = true ↔ Cost M edge own free k j ∨ (edge.testBit j = true ∧ free.testBit j = true) ∨ ∃ i, Cost M edge own free k i ∧ Adj M i j ∧ free.testBit j = true := by
  rw [stepFrom_bit, Nat.testBit_or, Nat.testBit_and, Bool.or_eq_true, Bool.and_eq_true, hg, or_assoc]
  refine or_congr_right (or_congr_right ?_)
  constructor
  · rintro ⟨i, h1, h2, h3⟩
    rw [Nat.zero_add] at h1
    exact ⟨i, (hg i).1 h1, h2, h3⟩
  · rintro ⟨i, h1, h2, h3⟩
    exact ⟨i, by rw [Nat.zero_add]; exact (hg i).2 h1, h2, h3⟩

theorem wave_succ {g k : Nat} (hg : ∀ j, g.testBit j = true ↔ Cost M edge own free k j) (hlt : own ||| stepFrom free g 0 M (g ||| (edge &&& free)) < 2 ^ 9) (j : Nat) :
    (growN M (own ||| stepFrom free g 0 M (g ||| (edge &&& free))) (stepFrom free g 0 M (g ||| (edge &&& free)) ||| (edge &&& own))).testBit j = true ↔ Cost M edge own free (k + 1) j := by
  rw [grow_bit hlt]
  have hn := next_bit hg
  obtain ⟨nx, hnx⟩ : ∃ nx, nx = stepFrom free g 0 M (g ||| (edge &&& free)) := ⟨_, rfl⟩
  rw [← hnx] at hn ⊢
  have up : ∀ j, nx.testBit j = true → Cost M edge own free (k + 1) j := fun j hj => by
    rcases (hn j).1 hj with h | ⟨h, hf⟩ | ⟨i, h, ha, hf⟩
    · exact h.more
    · exact .freeEdge h hf
    · exact .freeStep h ha hf
  constructor
  · intro h
    induction h with
    | start h hs =>
      rw [Nat.testBit_or, Nat.testBit_and, Bool.or_eq_true, Bool.and_eq_true] at h
      rcases h with h | ⟨h, ho⟩
      · exact up _ h
      · exact .ownEdge h ho
    | step _ ha hs ih =>
      rw [Nat.testBit_or, Bool.or_eq_true] at hs
      rcases hs with hs | hs
      · exact .ownStep ih ha hs
      · exact up _ hs
  · intro h
    have inNx : ∀ j, nx.testBit j = true → Reach M (own ||| nx) (nx ||| (edge &&& own)) j := fun j hj =>
      .start (by rw [Nat.testBit_or, hj]; rfl) (by rw [Nat.testBit_or, hj, Bool.or_true])
    generalize hk : k + 1 = k' at h
    induction h with
    | ownEdge h ho => exact .start (by rw [Nat.testBit_or, Nat.testBit_and, h, ho]; simp) (by rw [Nat.testBit_or, ho]; rfl)
    | freeEdge h hf => exact inNx _ ((hn _).2 (.inr (.inl ⟨h, hf⟩)))
    | ownStep _ ha ho ih => exact .step (ih hk) ha (by rw [Nat.testBit_or, ho]; rfl)
    | @freeStep k0 i j h0 ha hf _ =>
      obtain rfl : k = k0 := by omega
      exact inNx _ ((hn _).2 (.inr (.inr ⟨i, h0, ha, hf⟩)))

theorem next_sub {g : Nat} : ∀ j, (stepFrom free g 0 M (g ||| (edge &&& free))).testBit j = true → g.testBit j = true ∨ free.testBit j = true := by
  intro j hj
  rcases (stepFrom_bit free g j M 0 _).1 hj with h | ⟨_, _, _, h⟩
  · rw [Nat.testBit_or, Nat.testBit_and, Bool.or_eq_true, Bool.and_eq_true] at h
    exact h.imp id (fun h => h.2)
  · exact .inr h

theorem gapF_spec (ho : own < 2 ^ 9) (hf : free < 2 ^ 9) : ∀ (m cost now : Nat), (∀ j, (growN M (own ||| now) (now ||| (edge &&& own))).testBit j = true ↔ Cost M edge own free cost j) → (∀ i, i < cost → ¬ Hits M own free edge last i) → (∀ k, IsGap M own free edge last k → k < cost + m) →
    (∃ k : Nat, gapF M own free edge last m cost now = (k : Int) ∧ IsGap M own free edge last k) ∨ (gapF M own free edge last m cost now = -1 ∧ ∀ k, ¬ Hits M own free edge last k)
  | 0, cost, now, hg, hno, hm => by
    refine .inr ⟨rfl, fun k hk => ?_⟩
    obtain ⟨i, _, hi⟩ := hits_least k hk
    exact hno i (by have := hm i hi; omega) hi.1
  | m + 1, cost, now, hg, hno, hm => by
    rw [gapF]
    obtain ⟨gr, hgr⟩ : ∃ gr, gr = growN M (own ||| now) (now ||| (edge &&& own)) := ⟨_, rfl⟩
    rw [← hgr] at hg ⊢
    by_cases hl : gr &&& last = 0
    · rw [if_pos hl]
      have hnh : ¬ Hits M own free edge last cost := fun ⟨j, hj, hc⟩ => and_zero.1 hl j ((hg j).2 hc) hj
      by_cases hn : stepFrom free gr 0 M (gr ||| (edge &&& free)) = gr
      · rw [if_pos hn]
        refine .inr ⟨rfl, fun k ⟨j, hj, hc⟩ => hnh ⟨j, hj, ?_⟩⟩
        refine hits_closed (fun x hx => ?_) k j hc
        have hnb := next_bit hg
        rw [hn] at hnb
        generalize hk : cost + 1 = k' at hx
        induction hx with
        | ownEdge h ho => exact .ownEdge h ho
        | freeEdge h hf => exact (hg _).1 ((hnb _).2 (.inr (.inl ⟨h, hf⟩)))
        | ownStep _ ha ho ih => exact .ownStep (ih hk) ha ho
        | @freeStep k0 i j h0 ha hf _ =>
          obtain rfl : cost = k0 := by omega
          exact (hg _).1 ((hnb _).2 (.inr (.inr ⟨i, h0, ha, hf⟩)))
      · rw [if_neg hn]
        have hlt : own ||| stepFrom free gr 0 M (gr ||| (edge &&& free)) < 2 ^ 9 := by
          refine Nat.or_lt_two_pow ho (Nat.lt_of_le_of_lt (sub_le (b := own ||| free) fun j hj => ?_) (Nat.or_lt_two_pow ho hf))
          rw [Nat.testBit_or, Bool.or_eq_true]
          rcases next_sub j hj with h | h
          · have hc := (hg j).1 h
            cases hc with
            | ownEdge _ h => exact .inl h
            | freeEdge _ h => exact .inr h
            | ownStep _ _ h => exact .inl h
            | freeStep _ _ h => exact .inr h
          · exact .inr h
        refine gapF_spec ho hf m (cost + 1) _ (wave_succ hg hlt) (fun i hi => ?_) (fun k hk => by have := hm k hk; omega)
        rcases Nat.lt_or_ge i cost with h | h
        · exact hno i h
        · obtain rfl : i = cost := by omega
          exact hnh
    · rw [if_neg hl]
      refine .inl ⟨cost, rfl, ?_, hno⟩
      apply Classical.byContradiction
      intro hh
      exact hl (and_zero.2 fun j h1 h2 => hh ⟨j, h2, (hg j).1 h1⟩)

theorem gapN_spec {n : Nat} (hn : n ≤ 9) (ho : own < 2 ^ 9) (hf : free < 2 ^ n) :
    (∃ k : Nat, gapN M own free edge last n = (k : Int) ∧ IsGap M own free edge last k) ∨ (gapN M own free edge last n = -1 ∧ ∀ k, ¬ Hits M own free edge last k) := by
  have hf9 : free < 2 ^ 9 := Nat.lt_of_lt_of_le hf (Nat.pow_le_pow_right (by decide) hn)
  exact gapF_spec ho hf9 (n + 1) 0 0 (wave_zero ho) (fun i hi => by omega) (fun k hk => by have := gap_pop hf9 hk; have := pop_le hn hf; omega)

end

end Go.Proofs.YtfgjbfaapbhppaaDoor

/- The model's sets of cells: masks, sides, the cells with a stone, growing, and whether sides are joined. -/
namespace Go.Proofs.YtfgjbfaapbhppaaDoor
open Go Go.Ip G

def masksN (R C : Nat) : List Nat := (List.range (R * C)).map fun k => orAll 0 (nearN R C k)
def ints (M : List Nat) : List Int := M.map fun x : Nat => (x : Int)
theorem ints_length (M : List Nat) : (ints M).length = M.length := List.length_map ..
theorem ints_get {M : List Nat} {k : Nat} (hk : k < M.length) : (ints M)[k]'(by rw [ints_length]; exact hk) = ((M.getD k 0 : Nat) : Int) := by
  simp [ints, List.getD_eq_getElem?_getD, hk]

/-- A board, as numbers. -/
def BoardOf (R C : Nat) : Prop := 1 ≤ R ∧ R ≤ 4 ∧ 1 ≤ C ∧ C ≤ 4 ∧ R * C ≤ 9

theorem masksN_length (R C : Nat) : (masksN R C).length = R * C := by simp [masksN]
theorem masksN_lt {R C : Nat} (hb : BoardOf R C) : ∀ m ∈ masksN R C, m < 2 ^ 9 := by
  intro m hm
  obtain ⟨k, hk, rfl⟩ := List.mem_map.1 hm
  rw [List.mem_range] at hk
  obtain ⟨h1, h2, h3, h4, h9⟩ := hb
  exact orAll_lt _ _ (fun e he => by have := near_in h1 h2 h3 h4 h9 hk e he; omega) (by decide)

/-- An operation under a guard that holds nothing. -/
theorem gu {α : Type} {t : Bool} {β : Type} {x y : Option α} {f : α → Option β} {r : Option β} (hy : y.bind f = r) : ((wantV (.tup []) t).bind fun v => (bif v then x else y).bind f) = r := by
  simpa using hy

variable (g : Nat → PV) (lf n : Nat)

/-! ### masks -/
theorem mask_inner {L : List Int} {p : PV} {h : PHeap} (hp : IntSl .i64 h p L) (hL : ∀ e ∈ L, 0 ≤ e ∧ e < 9) (hl : L.length ≤ 10) (R C q X : PV) (K : PX → St → Res) : ∀ (m j fuel w : Nat), j + m = L.length → m < fuel → w < 2 ^ 9 →
    loopK (ev ((env g lf n).cx Tryd.prog spec_l2Masks.kl) spec_l2Masks.lp1) fuel (spec_l2Masks.st1 R C q X (.int .i64 (w : Int)) p (.int .i64 (j : Int)) h) (spec_l2Masks.K1 (env g lf n) K) =
      spec_l2Masks.K1 (env g lf n) K (.exit 2) (spec_l2Masks.se2_0_1_5_6_7_8_9_25 R C q X (.int .i64 (orAll w (L.drop j) : Int)) p (.int .i64 (L.length : Int)) (.bool false) h)
  | 0, j, fuel, w, hjm, hf, hw => by
    obtain ⟨f, rfl⟩ : ∃ f, fuel = f + 1 := ⟨fuel - 1, by omega⟩
    obtain rfl : j = L.length := by omega
    rw [loopK_succ, spec_l2Masks.body1_eq]
    have f1 : binP Tryd.prog .lss 3 (.int .i64 (L.length : Int)) (.int .i64 (L.length : Int)) = some (.bool false) := by rw [bin_lss, decide_eq_false (by omega)]
    unfold spec_l2Masks.body1
    refine bd hp.len' (bd f1 (cdF ?_))
    rw [kLoop_exit, List.drop_length, orAll]
  | m + 1, j, fuel, w, hjm, hf, hw => by
    obtain ⟨f, rfl⟩ : ∃ f, fuel = f + 1 := ⟨fuel - 1, by omega⟩
    have hj : j < L.length := by omega
    obtain ⟨a, ha, hla⟩ := hp.at' hj
    have he := hL _ (List.getElem_mem hj)
    obtain ⟨E, hE⟩ := Int.eq_ofNat_of_zero_le he.1
    rw [hE] at hla
    have hE9 : E < 9 := by omega
    have ih := mask_inner hp hL hl R C q X K m (j + 1) f (w ||| (1 <<< E)) (by omega) (by omega) (Nat.or_lt_two_pow hw (shl_lt hE9))
    have f1 : binP Tryd.prog .lss 3 (.int .i64 (j : Int)) (.int .i64 (L.length : Int)) = some (.bool true) := by rw [bin_lss, decide_eq_true (by omega)]
    have f2 := f_shl E (by omega)
    have f3 := f_or (a := w) (b := 1 <<< E) (by omega) (by have := shl_lt hE9; omega)
    have f4 : binP Tryd.prog .add 3 (.int .i64 (j : Int)) (.int .i64 1) = some (.int .i64 ((j + 1 : Nat) : Int)) := by rw [bin_add, nx (by omega)]
    have hdx : L.drop j = L[j] :: L.drop (j + 1) := List.drop_eq_getElem_cons hj
    rw [loopK_succ, spec_l2Masks.body1_eq, hdx, orAll, hE, show ((E : Int).toNat) = E from rfl]
    unfold spec_l2Masks.body1
    exact bd hp.len' (bd f1 (cdT (bd ha (bd hla (bd f2 (bd f3 (bd f4 ih)))))))

theorem mask_loop {R C : Nat} (hB : BoardOf R C) (hn : 2 ≤ n) (hlf : 20 < lf) : ∀ (m i fuel : Nat) (q : PV) (ys : List Int) (h : PHeap) (b : Nat), i + m = R * C → m < fuel → ys = ints ((masksN R C).take i) → OwnSl b h q ys → b ≤ h.length →
    ∃ q' h', loopK (ev ((env g lf n).cx Tryd.prog spec_l2Masks.kl) spec_l2Masks.lp0) fuel (spec_l2Masks.st0 (.int .i64 (R : Int)) (.int .i64 (C : Int)) q (.int .i64 (i : Int)) h) (spec_l2Masks.K0 (env g lf n) (kTop Tryd.prog Tryd.f43)) = some (q', h') ∧
      OwnSl b h' q' (ints (masksN R C)) ∧ Keep b h h'
  | 0, i, fuel, q, ys, h, b, him, hf, hy, ho, hb => by
    obtain ⟨f, rfl⟩ : ∃ f, fuel = f + 1 := ⟨fuel - 1, by omega⟩
    obtain rfl : i = R * C := by omega
    obtain ⟨h1, h2, h3, h4, h9⟩ := hB
    rw [← masksN_length R C, List.take_length] at hy
    refine ⟨q, h, ?_, by rw [← hy]; exact ho, Keep.refl _ _⟩
    rw [loopK_succ, spec_l2Masks.body0_eq]
    have f1 : binP Tryd.prog .lss 3 (.int .i64 ((R * C : Nat) : Int)) (.int .i64 ((R * C : Nat) : Int)) = some (.bool false) := by rw [bin_lss, decide_eq_false (by omega)]
    unfold spec_l2Masks.body0
    refine bd (f_mul R C (by omega)) (bd f1 (cdF ?_))
    rw [kLoop_exit, spec_l2Masks.after0_se0_0_1_5_6_15]
    exact bd ho.res rfl
  | m + 1, i, fuel, q, ys, h, b, him, hf, hy, ho, hb => by
    obtain ⟨f, rfl⟩ : ∃ f, fuel = f + 1 := ⟨fuel - 1, by omega⟩
    obtain ⟨h1, h2, h3, h4, h9⟩ := id hB
    have f1 : binP Tryd.prog .lss 3 (.int .i64 (i : Int)) (.int .i64 ((R * C : Nat) : Int)) = some (.bool true) := by rw [bin_lss, decide_eq_true (by omega)]
    obtain ⟨p, hn1, eN, oN, kN⟩ := l1Near_calls g lf n (by omega) hlf (h := h) h2 h3 h4 (show i ≤ 9 by omega)
    have hl6 := nearN_length R C i
    have hin : ∀ e ∈ nearN R C i, 0 ≤ e ∧ e < 9 := fun e he => by have := near_in h1 h2 h3 h4 h9 (show i < R * C by omega) e he; omega
    have inner := mask_inner g lf n oN.int hin (by omega) (.int .i64 (R : Int)) (.int .i64 (C : Int)) q (.int .i64 (i : Int)) (kLoop (ev ((env g lf n).cx Tryd.prog spec_l2Masks.kl) spec_l2Masks.lp0) f (spec_l2Masks.K0 (env g lf n) (kTop Tryd.prog Tryd.f43))) (nearN R C i).length 0 lf 0 (by omega) (by omega) (by decide)
    rw [List.drop_zero] at inner
    have ho1 := ho.keep kN
    have hlen : ys.length ≤ 9 := by rw [hy, ints_length, List.length_take]; omega
    obtain ⟨v, q2, h2', hb2, ha2, ho2, hk2⟩ := ho1.append (by have := kN.1; omega) ((orAll 0 (nearN R C i) : Nat) : Int) (by omega)
    have f4 : binP Tryd.prog .add 3 (.int .i64 (i : Int)) (.int .i64 1) = some (.int .i64 ((i + 1 : Nat) : Int)) := by rw [bin_add, nx (by omega)]
    have hy2 : ys ++ [((orAll 0 (nearN R C i) : Nat) : Int)] = ints ((masksN R C).take (i + 1)) := by
      have hi : i < (masksN R C).length := by rw [masksN_length]; omega
      rw [hy, List.take_add_one, List.getElem?_eq_getElem hi]
      simp [ints, masksN]
    obtain ⟨q', h', ih, o', k'⟩ := mask_loop hB hn hlf m (i + 1) f q2 _ h2' b (by omega) (by omega) hy2 ho2 (by have := hk2.1; have := kN.1; omega)
    refine ⟨q', h', ?_, o', ((kN.mono hb).trans hk2).trans k'⟩
    rw [loopK_succ, spec_l2Masks.body0_eq]
    unfold spec_l2Masks.body0
    refine bd (f_mul R C (by omega)) (bd f1 (cdT (bd eN (inner.trans ?_))))
    rw [spec_l2Masks.after1_se2_0_1_5_6_7_8_9_25]
    exact bd hb2 (bd ha2 (bd f4 ih))

theorem l2Masks_calls {R C : Nat} (hB : BoardOf R C) (N : Nat) (hN : 3 ≤ N) (hlf : 20 < lf) {h : PHeap} :
    ∃ q h', CL g lf N fn_spec_l2Masks [.int .i64 (R : Int), .int .i64 (C : Int)] h = some (q, h') ∧ OwnSl h.length h' q (ints (masksN R C)) ∧ Keep h.length h h' := by
  obtain ⟨n, rfl⟩ : ∃ n, N = n + 1 := ⟨N - 1, by omega⟩
  rw [spec_l2Masks.call_eq]
  obtain ⟨q0, h0, e0, o0, k0⟩ := empty_lit (h := h)
  obtain ⟨q', h', e, o, k⟩ := mask_loop g lf n hB (by omega) hlf (R * C) 0 lf q0 [] h0 h.length (by omega) (by have := hB.2.2.2.2; omega) (by simp [ints]) o0 k0.1
  refine ⟨q', h', ?_, o, k0.trans k⟩
  unfold spec_l2Masks.main
  exact bd e0 e

/-! ### sides -/
def atSide (C P i : Nat) : Nat := if P = 2 then i % C else i / C
def endSide (R C P : Nat) : Nat := if P = 2 then C - 1 else R - 1
def sideFrom (R C P : Nat) (last : Bool) : Nat → Nat → Nat → Nat
  | 0, _, w => w
  | m + 1, i, w => sideFrom R C P last m (i + 1) (if (bif last then decide (atSide C P i = endSide R C P) else decide (atSide C P i = 0)) = true then w ||| (1 <<< i) else w)
def sideN (R C P : Nat) (last : Bool) : Nat := sideFrom R C P last (R * C) 0 0

theorem side_step {R C P i : Nat} (hB : BoardOf R C) (hP : P = 1 ∨ P = 2) (last : Bool) (hi : i < R * C) (w : Nat) (hw : w < 2 ^ 9) (K : PX → St → Res) (h : PHeap) :
    spec_l2Side.body0 (env g lf n) K (.int .i64 (R : Int)) (.int .i64 (C : Int)) (.int .i64 (P : Int)) (.bool last) (.int .i64 (w : Int)) (.int .i64 (i : Int)) h =
      K .normal (spec_l2Side.st0 (.int .i64 (R : Int)) (.int .i64 (C : Int)) (.int .i64 (P : Int)) (.bool last) (.int .i64 ((if (bif last then decide (atSide C P i = endSide R C P) else decide (atSide C P i = 0)) = true then w ||| (1 <<< i) else w : Nat) : Int)) (.int .i64 ((i + 1 : Nat) : Int)) h) := by
  obtain ⟨h1, h2, h3, h4, h9⟩ := hB
  have f1 : binP Tryd.prog .lss 3 (.int .i64 (i : Int)) (.int .i64 ((R * C : Nat) : Int)) = some (.bool true) := by rw [bin_lss, decide_eq_true (by omega)]
  have fq := f_quo i C h3 (by omega)
  have fr := f_rem i C h3
  have fs := f_shl i (by omega)
  have fo := f_or (a := w) (b := 1 <<< i) (by omega) (by have := shl_lt (show i < 9 by omega); omega)
  have fn' : binP Tryd.prog .add 3 (.int .i64 (i : Int)) (.int .i64 1) = some (.int .i64 ((i + 1 : Nat) : Int)) := by rw [bin_add, nx (by omega)]
  have fR : binP Tryd.prog .sub 3 (.int .i64 (R : Int)) (.int .i64 1) = some (.int .i64 ((R - 1 : Nat) : Int)) := by rw [bin_sub, wr (by omega), show (R : Int) - 1 = ((R - 1 : Nat) : Int) by omega]
  have fC : binP Tryd.prog .sub 3 (.int .i64 (C : Int)) (.int .i64 1) = some (.int .i64 ((C - 1 : Nat) : Int)) := by rw [bin_sub, wr (by omega), show (C : Int) - 1 = ((C - 1 : Nat) : Int) by omega]
  have eqz : ∀ x y : Nat, binP Tryd.prog .eql 3 (.int .i64 (x : Int)) (.int .i64 (y : Int)) = some (.bool (decide (x = y))) := fun x y => by rw [bin_eql, natEq]
  have eq0 : ∀ x : Nat, binP Tryd.prog .eql 3 (.int .i64 (x : Int)) (.int .i64 0) = some (.bool (decide (x = 0))) := fun x => eqz x 0
  unfold spec_l2Side.body0
  rcases hP with rfl | rfl
  · have fP : binP Tryd.prog .eql 3 (.int .i64 ((1 : Nat) : Int)) (.int .i64 2) = some (.bool false) := by rw [bin_eql]; rfl
    have ea : atSide C 1 i = i / C := rfl
    have ee : endSide R C 1 = R - 1 := rfl
    rw [ea, ee]
    refine bd (f_mul R C (by omega)) (bd f1 (cdT (bd fq (bd fR (bd fP (cdF ?_))))))
    cases last with
    | true =>
      simp only [cond_true]
      by_cases e : i / C = R - 1
      · have g1 := eqz (i / C) (R - 1)
        rw [decide_eq_true e] at g1
        rw [if_pos (decide_eq_true e)]
        refine gd rfl (bd rfl (gd rfl (bd rfl (gd rfl (bd (congrArg (pv _) g1) (bd (v := PV.bool true) rfl ?_))))))
        refine gn rfl (bd rfl (gn rfl (bd rfl (gn rfl (bd rfl (gu (bd rfl (gu (bd rfl (gn rfl (bd rfl (bd (v := PV.bool true) rfl (cdT ?_)))))))))))))
        exact bd fs (bd fo (bd fn' rfl))
      · have g1 := eqz (i / C) (R - 1)
        rw [decide_eq_false e] at g1
        rw [if_neg (by simpa using e)]
        refine gd rfl (bd rfl (gd rfl (bd rfl (gd rfl (bd (congrArg (pv _) g1) (bd (v := PV.bool false) rfl ?_))))))
        refine gd rfl (bd rfl (gd rfl (bd (v := (PV.bool false, h)) rfl (gd rfl (bd rfl (gn rfl (bd rfl (gn rfl (bd rfl (gd rfl (bd (v := (PV.bool false, h)) rfl (bd (v := PV.bool false) rfl (cdF ?_)))))))))))))
        exact bd fn' rfl
    | false =>
      simp only [cond_false]
      have g1 := eq0 (i / C)
      refine gn rfl (bd rfl (gn rfl (bd rfl (gn rfl (bd rfl (bd (v := PV.bool false) rfl ?_))))))
      refine gd rfl (bd rfl (gd rfl (bd (v := (PV.bool true, h)) rfl (gd rfl (bd rfl (gd rfl (bd rfl (gd rfl (bd (congrArg (pv _) g1) (gd rfl (bd (v := (PV.bool (decide (i / C = 0)), h)) rfl (bd (v := PV.bool (decide (i / C = 0))) rfl ?_))))))))))))
      by_cases e : i / C = 0
      · rw [decide_eq_true e, if_pos rfl]
        exact cdT (bd fs (bd fo (bd fn' rfl)))
      · rw [decide_eq_false e, if_neg (by decide)]
        exact cdF (bd fn' rfl)
  · have fP : binP Tryd.prog .eql 3 (.int .i64 ((2 : Nat) : Int)) (.int .i64 2) = some (.bool true) := by rw [bin_eql]; rfl
    have ea : atSide C 2 i = i % C := rfl
    have ee : endSide R C 2 = C - 1 := rfl
    rw [ea, ee]
    refine bd (f_mul R C (by omega)) (bd f1 (cdT (bd fq (bd fR (bd fP (cdT (bd fr (bd fC ?_))))))))
    cases last with
    | true =>
      simp only [cond_true]
      by_cases e : i % C = C - 1
      · have g1 := eqz (i % C) (C - 1)
        rw [decide_eq_true e] at g1
        rw [if_pos (decide_eq_true e)]
        refine gd rfl (bd rfl (gd rfl (bd rfl (gd rfl (bd (congrArg (pv _) g1) (bd (v := PV.bool true) rfl ?_))))))
        refine gn rfl (bd rfl (gn rfl (bd rfl (gn rfl (bd rfl (gu (bd rfl (gu (bd rfl (gn rfl (bd rfl (bd (v := PV.bool true) rfl (cdT ?_)))))))))))))
        exact bd fs (bd fo (bd fn' rfl))
      · have g1 := eqz (i % C) (C - 1)
        rw [decide_eq_false e] at g1
        rw [if_neg (by simpa using e)]
        refine gd rfl (bd rfl (gd rfl (bd rfl (gd rfl (bd (congrArg (pv _) g1) (bd (v := PV.bool false) rfl ?_))))))
        refine gd rfl (bd rfl (gd rfl (bd (v := (PV.bool false, h)) rfl (gd rfl (bd rfl (gn rfl (bd rfl (gn rfl (bd rfl (gd rfl (bd (v := (PV.bool false, h)) rfl (bd (v := PV.bool false) rfl (cdF ?_)))))))))))))
        exact bd fn' rfl
    | false =>
      simp only [cond_false]
      have g1 := eq0 (i % C)
      refine gn rfl (bd rfl (gn rfl (bd rfl (gn rfl (bd rfl (bd (v := PV.bool false) rfl ?_))))))
      refine gd rfl (bd rfl (gd rfl (bd (v := (PV.bool true, h)) rfl (gd rfl (bd rfl (gd rfl (bd rfl (gd rfl (bd (congrArg (pv _) g1) (gd rfl (bd (v := (PV.bool (decide (i % C = 0)), h)) rfl (bd (v := PV.bool (decide (i % C = 0))) rfl ?_))))))))))))
      by_cases e : i % C = 0
      · rw [decide_eq_true e, if_pos rfl]
        exact cdT (bd fs (bd fo (bd fn' rfl)))
      · rw [decide_eq_false e, if_neg (by decide)]
        exact cdF (bd fn' rfl)

theorem sideFrom_lt {R C P : Nat} {last : Bool} (h9 : R * C ≤ 9) : ∀ (m i w : Nat), i + m = R * C → w < 2 ^ 9 → sideFrom R C P last m i w < 2 ^ 9
  | 0, _, _, _, hw => hw
  | m + 1, i, w, him, hw => by
    rw [sideFrom]
    refine sideFrom_lt h9 m (i + 1) _ (by omega) ?_
    split
    · exact Nat.or_lt_two_pow hw (shl_lt (by omega))
    · exact hw
theorem sideN_lt {R C P : Nat} {last : Bool} (hB : BoardOf R C) : sideN R C P last < 2 ^ 9 := sideFrom_lt hB.2.2.2.2 _ _ _ (by omega) (by decide)

theorem side_loop {R C P : Nat} (hB : BoardOf R C) (hP : P = 1 ∨ P = 2) (last : Bool) (h : PHeap) : ∀ (m i fuel w : Nat), i + m = R * C → m < fuel → w < 2 ^ 9 →
    loopK (ev ((env g lf n).cx Tryd.prog spec_l2Side.kl) spec_l2Side.lp0) fuel (spec_l2Side.st0 (.int .i64 (R : Int)) (.int .i64 (C : Int)) (.int .i64 (P : Int)) (.bool last) (.int .i64 (w : Int)) (.int .i64 (i : Int)) h) (spec_l2Side.K0 (env g lf n) (kTop Tryd.prog Tryd.f67)) = some (.int .i64 (sideFrom R C P last m i w : Int), h)
  | 0, i, fuel, w, him, hf, hw => by
    obtain ⟨f, rfl⟩ : ∃ f, fuel = f + 1 := ⟨fuel - 1, by omega⟩
    obtain ⟨h1, h2, h3, h4, h9⟩ := hB
    rw [loopK_succ, spec_l2Side.body0_eq]
    have f1 : binP Tryd.prog .lss 3 (.int .i64 (i : Int)) (.int .i64 ((R * C : Nat) : Int)) = some (.bool false) := by rw [bin_lss, decide_eq_false (by omega)]
    unfold spec_l2Side.body0
    refine bd (f_mul R C (by omega)) (bd f1 (cdF ?_))
    rw [kLoop_exit, spec_l2Side.after0_se0_0_1_2_3_9_10_17]
    exact bd res_int rfl
  | m + 1, i, fuel, w, him, hf, hw => by
    obtain ⟨f, rfl⟩ : ∃ f, fuel = f + 1 := ⟨fuel - 1, by omega⟩
    rw [loopK_succ, spec_l2Side.body0_eq, side_step g lf n hB hP last (by omega) w hw, kLoop_normal, sideFrom]
    refine side_loop hB hP last h m (i + 1) f _ (by omega) (by omega) ?_
    split
    · exact Nat.or_lt_two_pow hw (shl_lt (by have := hB.2.2.2.2; omega))
    · exact hw

theorem l2Side_calls {R C P : Nat} (hB : BoardOf R C) (hP : P = 1 ∨ P = 2) (last : Bool) (N : Nat) (hN : 1 ≤ N) (hlf : 20 < lf) (h : PHeap) :
    CL g lf N fn_spec_l2Side [.int .i64 (R : Int), .int .i64 (C : Int), .int .i64 (P : Int), .bool last] h = some (.int .i64 (sideN R C P last : Int), h) := by
  obtain ⟨n, rfl⟩ : ∃ n, N = n + 1 := ⟨N - 1, by omega⟩
  rw [spec_l2Side.call_eq]
  unfold spec_l2Side.main
  exact side_loop g lf n hB hP last h (R * C) 0 lf 0 (by omega) (by have := hB.2.2.2.2; omega) (by decide)

/-! ### the cells with a stone -/
def setFrom (what : Int) : Nat → List Int → Nat → Nat
  | _, [], w => w
  | k, x :: xs, w => setFrom what (k + 1) xs (if x = what then w ||| (1 <<< k) else w)
def setL (xs : List Int) (what : Int) : Nat := setFrom what 0 xs 0

theorem setFrom_lt (what : Int) {n : Nat} : ∀ (xs : List Int) (k w : Nat), k + xs.length ≤ n → w < 2 ^ n → setFrom what k xs w < 2 ^ n
  | [], _, _, _, hw => hw
  | x :: xs, k, w, hk, hw => by
    rw [setFrom]
    rw [List.length_cons] at hk
    refine setFrom_lt what xs (k + 1) _ (by omega) ?_
    split
    · refine Nat.or_lt_two_pow hw ?_
      rw [Nat.one_shiftLeft]; exact Nat.pow_lt_pow_right (by decide) (by omega)
    · exact hw
theorem setL_lt (what : Int) {xs : List Int} {n : Nat} (h : xs.length ≤ n) : setL xs what < 2 ^ n := setFrom_lt what xs 0 0 (by omega) (Nat.two_pow_pos n)

theorem setFrom_bit (what : Int) (j : Nat) : ∀ (xs : List Int) (k w : Nat), (setFrom what k xs w).testBit j = true ↔ w.testBit j = true ∨ ∃ i, j = k + i ∧ xs[i]? = some what
  | [], k, w => by simp [setFrom]
  | x :: xs, k, w => by
    rw [setFrom, setFrom_bit what j xs (k + 1)]
    have hs : (∃ i, j = k + i ∧ (x :: xs)[i]? = some what) ↔ (j = k ∧ x = what) ∨ ∃ i, j = k + 1 + i ∧ xs[i]? = some what := by
      constructor
      · rintro ⟨i, h1, h2⟩
        cases i with
        | zero => exact .inl ⟨by omega, by simpa using h2⟩
        | succ i => exact .inr ⟨i, by omega, by simpa using h2⟩
      · rintro (⟨h1, h2⟩ | ⟨i, h1, h2⟩)
        · exact ⟨0, by omega, by simp [h2]⟩
        · exact ⟨i + 1, by omega, by simpa using h2⟩
    rw [hs]
    by_cases e : x = what
    · rw [if_pos e, Nat.testBit_or, one_bit, Bool.or_eq_true, decide_eq_true_iff]
      simp [e, or_assoc]
    · rw [if_neg e]; simp [e]

theorem setL_bit {xs : List Int} {what : Int} {j : Nat} : (setL xs what).testBit j = true ↔ xs[j]? = some what := by
  unfold setL
  rw [setFrom_bit]
  constructor
  · rintro (h | ⟨i, h1, h2⟩)
    · rw [Nat.zero_testBit] at h; cases h
    · rw [Nat.zero_add] at h1; subst h1; exact h2
  · intro h; exact .inr ⟨j, by omega, h⟩

theorem set_loop {xs : List Int} {p : PV} {h : PHeap} (what : Int) (hp : IntSl .i64 h p xs) (hl : xs.length ≤ 20) : ∀ (m i fuel w : Nat), i + m = xs.length → m < fuel → w < 2 ^ 30 →
    loopK (ev ((env g lf n).cx Tryd.prog spec_l2Set.kl) spec_l2Set.lp0) fuel (spec_l2Set.st0 p (.int .i64 what) (.int .i64 (w : Int)) (.int .i64 (i : Int)) h) (spec_l2Set.K0 (env g lf n) (kTop Tryd.prog Tryd.f44)) = some (.int .i64 (setFrom what i (xs.drop i) w : Int), h)
  | 0, i, fuel, w, him, hf, hw => by
    obtain ⟨f, rfl⟩ : ∃ f, fuel = f + 1 := ⟨fuel - 1, by omega⟩
    rw [loopK_succ, spec_l2Set.body0_eq]
    have f1 : binP Tryd.prog .lss 3 (.int .i64 (i : Int)) (.int .i64 (xs.length : Int)) = some (.bool false) := by rw [bin_lss, decide_eq_false (by omega)]
    unfold spec_l2Set.body0
    refine bd hp.len' (bd f1 (cdF ?_))
    rw [kLoop_exit, spec_l2Set.after0_se0_0_1_5_6_10, List.drop_eq_nil_of_le (by omega), setFrom]
    exact bd res_int rfl
  | m + 1, i, fuel, w, him, hf, hw => by
    obtain ⟨f, rfl⟩ : ∃ f, fuel = f + 1 := ⟨fuel - 1, by omega⟩
    have hi : i < xs.length := by omega
    obtain ⟨a, ha, hla⟩ := hp.at' hi
    have hdx : xs.drop i = xs[i] :: xs.drop (i + 1) := List.drop_eq_getElem_cons hi
    have f1 : binP Tryd.prog .lss 3 (.int .i64 (i : Int)) (.int .i64 (xs.length : Int)) = some (.bool true) := by rw [bin_lss, decide_eq_true (by omega)]
    have f2 : binP Tryd.prog .eql 3 (.int .i64 xs[i]) (.int .i64 what) = some (.bool (decide (xs[i] = what))) := by rw [bin_eql]; rfl
    have f4 : binP Tryd.prog .add 3 (.int .i64 (i : Int)) (.int .i64 1) = some (.int .i64 ((i + 1 : Nat) : Int)) := by rw [bin_add, nx (by omega)]
    have h30 : 1 <<< i < 2 ^ 30 := by rw [Nat.one_shiftLeft]; exact Nat.pow_lt_pow_right (by decide) (by omega)
    rw [loopK_succ, spec_l2Set.body0_eq, hdx, setFrom]
    unfold spec_l2Set.body0
    refine bd hp.len' (bd f1 (cdT (bd ha (bd hla (bd f2 ?_)))))
    by_cases e : xs[i] = what
    · rw [decide_eq_true e, if_pos e]
      refine cdT (bd (f_shl i (by omega)) (bd (f_or (a := w) (b := 1 <<< i) (by omega) (by omega)) (bd f4 ?_)))
      rw [kLoop_normal]
      exact set_loop what hp hl m (i + 1) f _ (by omega) (by omega) (Nat.or_lt_two_pow hw h30)
    · rw [decide_eq_false e, if_neg e]
      refine cdF (bd f4 ?_)
      rw [kLoop_normal]
      exact set_loop what hp hl m (i + 1) f _ (by omega) (by omega) hw

theorem l2Set_calls {xs : List Int} {p : PV} {h : PHeap} (what : Int) (hp : IntSl .i64 h p xs) (hl : xs.length ≤ 20) (N : Nat) (hN : 1 ≤ N) (hlf : 20 < lf) :
    CL g lf N fn_spec_l2Set [p, .int .i64 what] h = some (.int .i64 (setL xs what : Int), h) := by
  obtain ⟨n, rfl⟩ : ∃ n, N = n + 1 := ⟨N - 1, by omega⟩
  rw [spec_l2Set.call_eq]
  unfold spec_l2Set.main
  have := set_loop g lf n what hp hl xs.length 0 lf 0 (by omega) (by omega) (by decide)
  rw [List.drop_zero] at this
  exact this

/-! ### growing -/
theorem bitq (x k : Nat) (hk : k ≤ 20) : binP Tryd.prog .shr 3 (.int .i64 (x : Int)) (.int .i64 (k : Int)) = some (.int .i64 ((x >>> k : Nat) : Int)) ∧ binP Tryd.prog .rem 3 (.int .i64 ((x >>> k : Nat) : Int)) (.int .i64 2) = some (.int .i64 ((x >>> k % 2 : Nat) : Int)) ∧
    binP Tryd.prog .eql 3 (.int .i64 ((x >>> k % 2 : Nat) : Int)) (.int .i64 1) = some (.bool (decide (x >>> k % 2 = 1))) :=
  ⟨f_shr x k (by omega), f_rem (x >>> k) 2 (by decide), by rw [bin_eql]; exact congrArg (fun z => some (PV.bool z)) (natEq _ 1)⟩

theorem stepFrom_lt {set now : Nat} (hs : set < 2 ^ 9) : ∀ (ms : List Nat) (k nx : Nat), nx < 2 ^ 9 → stepFrom set now k ms nx < 2 ^ 9
  | [], _, _, h => h
  | m :: ms, k, nx, h => by
    rw [stepFrom]
    refine stepFrom_lt hs ms (k + 1) _ ?_
    split
    · exact Nat.or_lt_two_pow h (Nat.and_lt_two_pow m hs)
    · exact h

theorem grow_inner {M : List Nat} {p : PV} {h : PHeap} (hp : IntSl .i64 h p (ints M)) (hM : ∀ m ∈ M, m < 2 ^ 9) (hl : M.length ≤ 9) {set now : Nat} (hs : set < 2 ^ 9) (K : PX → St → Res) : ∀ (m k fuel nx : Nat), k + m = M.length → m < fuel → nx < 2 ^ 9 →
    loopK (ev ((env g lf n).cx Tryd.prog spec_l2Grow.kl) spec_l2Grow.lp1) fuel (spec_l2Grow.st1 p (.int .i64 (set : Int)) (.int .i64 (now : Int)) (.int .i64 (nx : Int)) (.int .i64 (k : Int)) h) (spec_l2Grow.K1 (env g lf n) K) =
      K .normal (spec_l2Grow.st0 p (.int .i64 (set : Int)) (.int .i64 (stepFrom set now k (M.drop k) nx : Int)) (.bool (!decide (stepFrom set now k (M.drop k) nx = now))) h)
  | 0, k, fuel, nx', hkm, hf, hnx => by
    obtain ⟨f, rfl⟩ : ∃ f, fuel = f + 1 := ⟨fuel - 1, by omega⟩
    rw [loopK_succ, spec_l2Grow.body1_eq]
    have f1 : binP Tryd.prog .lss 3 (.int .i64 (k : Int)) (.int .i64 ((ints M).length : Int)) = some (.bool false) := by rw [bin_lss, ints_length, decide_eq_false (by omega)]
    have f2 : binP Tryd.prog .neq 3 (.int .i64 (nx' : Int)) (.int .i64 (now : Int)) = some (.bool (!decide (nx' = now))) := by
      rw [bin_neq, bne, natEq]
    unfold spec_l2Grow.body1
    refine bd hp.len' (bd f1 (cdF ?_))
    rw [kLoop_exit, spec_l2Grow.after1_se2_0_1_7_9_10_19, List.drop_eq_nil_of_le (by omega), stepFrom]
    exact bd f2 rfl
  | m + 1, k, fuel, nx', hkm, hf, hnx => by
    obtain ⟨f, rfl⟩ : ∃ f, fuel = f + 1 := ⟨fuel - 1, by omega⟩
    have hk : k < M.length := by omega
    obtain ⟨a, ha, hla⟩ := hp.at' (show k < (ints M).length by rw [ints_length]; exact hk)
    rw [ints_get hk] at hla
    have hmk : M.getD k 0 < 2 ^ 9 := by
      rw [List.getD_eq_getElem?_getD, List.getElem?_eq_getElem hk]; exact hM _ (List.getElem_mem hk)
    have hdx : M.drop k = M.getD k 0 :: M.drop (k + 1) := by
      rw [List.getD_eq_getElem?_getD, List.getElem?_eq_getElem hk]; exact List.drop_eq_getElem_cons hk
    have f1 : binP Tryd.prog .lss 3 (.int .i64 (k : Int)) (.int .i64 ((ints M).length : Int)) = some (.bool true) := by rw [bin_lss, ints_length, decide_eq_true (by omega)]
    obtain ⟨b1, b2, b3⟩ := bitq now k (by omega)
    have f4 : binP Tryd.prog .add 3 (.int .i64 (k : Int)) (.int .i64 1) = some (.int .i64 ((k + 1 : Nat) : Int)) := by rw [bin_add, nx (by omega)]
    rw [loopK_succ, spec_l2Grow.body1_eq, hdx, stepFrom]
    unfold spec_l2Grow.body1
    refine bd hp.len' (bd f1 (cdT (bd b1 (bd b2 (bd b3 ?_)))))
    by_cases e : now >>> k % 2 = 1
    · rw [decide_eq_true e, if_pos e]
      have ha2 := f_and (a := M.getD k 0) (b := set) (by omega) (by omega)
      have hlt := Nat.and_lt_two_pow (M.getD k 0) hs
      have ho2 := f_or (a := nx') (b := M.getD k 0 &&& set) (by omega) (by omega)
      refine cdT (bd ha (bd hla (bd ha2 (bd ho2 (bd f4 ?_)))))
      rw [kLoop_normal]
      exact grow_inner hp hM hl hs K m (k + 1) f _ (by omega) (by omega) (Nat.or_lt_two_pow hnx hlt)
    · rw [decide_eq_false e, if_neg e]
      refine cdF (bd f4 ?_)
      rw [kLoop_normal]
      exact grow_inner hp hM hl hs K m (k + 1) f _ (by omega) (by omega) hnx

theorem grow_loop {M : List Nat} {p : PV} {h : PHeap} (hp : IntSl .i64 h p (ints M)) (hM : ∀ m ∈ M, m < 2 ^ 9) (hl : M.length ≤ 9) {set : Nat} (hs : set < 2 ^ 9) (hlf : 20 < lf) : ∀ (f fuel now : Nat), (∀ j, now.testBit j = true → set.testBit j = true) → set < now + f → f + 1 < fuel →
    loopK (ev ((env g lf n).cx Tryd.prog spec_l2Grow.kl) spec_l2Grow.lp0) fuel (spec_l2Grow.st0 p (.int .i64 (set : Int)) (.int .i64 (now : Int)) (.bool true) h) (spec_l2Grow.K0 (env g lf n) (kTop Tryd.prog Tryd.f66)) = some (.int .i64 (growF M set f now : Int), h)
  | 0, fuel, now, hsub, hf, hfu => by have := sub_le hsub; omega
  | f + 1, fuel, now, hsub, hf, hfu => by
    obtain ⟨F, rfl⟩ : ∃ F, fuel = F + 1 := ⟨fuel - 1, by omega⟩
    have hnow : now < 2 ^ 9 := Nat.lt_of_le_of_lt (sub_le hsub) hs
    have inner := grow_inner g lf n hp hM hl (set := set) (now := now) hs (kLoop (ev ((env g lf n).cx Tryd.prog spec_l2Grow.kl) spec_l2Grow.lp0) F (spec_l2Grow.K0 (env g lf n) (kTop Tryd.prog Tryd.f66))) M.length 0 lf now (by omega) (by omega) hnow
    rw [List.drop_zero] at inner
    rw [loopK_succ, spec_l2Grow.body0_eq]
    unfold spec_l2Grow.body0
    refine cdT (inner.trans ?_)
    rw [kLoop_normal, growF]
    by_cases e : stepFrom set now 0 M now = now
    · rw [if_pos e, e, decide_eq_true rfl, Bool.not_true]
      obtain ⟨F', rfl⟩ : ∃ F', F = F' + 1 := ⟨F - 1, by omega⟩
      rw [loopK_succ, spec_l2Grow.body0_eq]
      unfold spec_l2Grow.body0
      refine cdF ?_
      rw [kLoop_exit, spec_l2Grow.after0_se0_0_1_7_14]
      exact bd res_int rfl
    · rw [if_neg e, decide_eq_false e, Bool.not_false]
      have hle := stepFrom_le set now M 0 now
      exact grow_loop hp hM hl hs hlf f F _ (step_sub hsub) (by omega) (by omega)

theorem l2Grow_calls {M : List Nat} {p : PV} {h : PHeap} (hp : IntSl .i64 h p (ints M)) (hM : ∀ m ∈ M, m < 2 ^ 9) (hl : M.length ≤ 9) {set fr : Nat} (hs : set < 2 ^ 9) (hfr : fr < 2 ^ 62) (N : Nat) (hN : 1 ≤ N) (hlf : 1000 < lf) :
    CL g lf N fn_spec_l2Grow [p, .int .i64 (set : Int), .int .i64 (fr : Int)] h = some (.int .i64 (growN M set fr : Int), h) := by
  obtain ⟨n, rfl⟩ : ∃ n, N = n + 1 := ⟨N - 1, by omega⟩
  rw [spec_l2Grow.call_eq]
  unfold spec_l2Grow.main
  refine bd (f_and (a := fr) (b := set) hfr (by omega)) ?_
  exact grow_loop g lf n hp hM hl hs (by omega) 600 lf (fr &&& set) (fun j hj => by rw [Nat.testBit_and, Bool.and_eq_true] at hj; exact hj.2) (by omega) (by omega)

def joinsN (R C P S : Nat) : Bool := !decide (growN (masksN R C) S (sideN R C P false) &&& sideN R C P true = 0)

theorem l2Joins_calls {R C P S : Nat} (hB : BoardOf R C) (hP : P = 1 ∨ P = 2) {p : PV} {h : PHeap} (hp : IntSl .i64 h p (ints (masksN R C))) (hs : S < 2 ^ 9) (N : Nat) (hN : 2 ≤ N) (hlf : 1000 < lf) :
    CL g lf N fn_spec_l2Joins [.int .i64 (R : Int), .int .i64 (C : Int), p, .int .i64 (S : Int), .int .i64 (P : Int)] h = some (.bool (joinsN R C P S), h) := by
  obtain ⟨n, rfl⟩ : ∃ n, N = n + 1 := ⟨N - 1, by omega⟩
  rw [spec_l2Joins.call_eq]
  have s1 := l2Side_calls g lf hB hP false n (by omega) (by omega) h
  have s2 := l2Side_calls g lf hB hP true n (by omega) (by omega) h
  have l1 := sideN_lt (P := P) (last := false) hB
  have l2 := sideN_lt (P := P) (last := true) hB
  have gr := l2Grow_calls g lf hp (masksN_lt hB) (by rw [masksN_length]; exact hB.2.2.2.2) hs (fr := sideN R C P false) (by omega) n (by omega) hlf
  have lg := grow_lt (M := masksN R C) (fr := sideN R C P false) hs
  have fa := f_and (a := growN (masksN R C) S (sideN R C P false)) (b := sideN R C P true) (by omega) (by omega)
  have fn' : binP Tryd.prog .neq 3 (.int .i64 ((growN (masksN R C) S (sideN R C P false) &&& sideN R C P true : Nat) : Int)) (.int .i64 0) = some (.bool (joinsN R C P S)) := by
    rw [bin_neq]
    unfold joinsN
    exact congrArg (fun z => some (PV.bool (!z))) (natEq _ 0)
  unfold spec_l2Joins.main
  exact bd s1 (bd gr (bd s2 (bd fa (bd fn' (bd res_bool rfl)))))

end Go.Proofs.YtfgjbfaapbhppaaDoor

/- The model's chapter 2: what Joins, GroupOf, GapOf, Filled and GapCells of it compute. -/
namespace Go.Proofs.YtfgjbfaapbhppaaDoor
open Go Go.Ip G

def playerB (p : Int) : Bool := decide (1 ≤ p ∧ p ≤ 2)
def joinsL (r c : Int) (xs : List Int) (p : Int) : Bool := posB r c xs && playerB p && joinsN r.toNat c.toNat p.toNat (setL xs p)
def gapOfN (R C P : Nat) (xs : List Int) : Int := gapN (masksN R C) (setL xs P) (setL xs 0) (sideN R C P false) (sideN R C P true) (R * C)
def gapL (r c : Int) (xs : List Int) (p : Int) : Int := if (posB r c xs && playerB p) = true then gapOfN r.toNat c.toNat p.toNat xs else -1
def fillL (p x : Int) : Int := if x = 0 then p else x
def filledL (r c : Int) (xs : List Int) (p : Int) : List Int := if (posB r c xs && playerB p) = true then xs.map (fillL p) else []
def listFrom (set : Nat) : Nat → Nat → List Int
  | 0, _ => []
  | m + 1, k => if set >>> k % 2 = 1 then (k : Int) :: listFrom set m (k + 1) else listFrom set m (k + 1)
def listN (set : Nat) : List Int := listFrom set 9 0
def stoneB (r c : Int) (xs : List Int) (k : Int) : Bool := posB r c xs && decide (0 ≤ k ∧ k < (xs.length : Int)) && !decide (xs.getD k.toNat 0 = 0)
def groupL (r c : Int) (xs : List Int) (k : Int) : List Int := if stoneB r c xs k = true then listN (growN (masksN r.toNat c.toNat) (setL xs (xs.getD k.toNat 0)) (1 <<< k.toNat)) else []
def gapCellsL (r c : Int) (xs : List Int) (p : Int) : List Int :=
  if 0 < gapL r c xs p then ((List.range xs.length).filter fun k => decide (xs.getD k 0 = 0) && decide (gapL r c (xs.set k p) p = gapL r c xs p - 1)).map fun k : Nat => (k : Int) else []

theorem board_of_sides {r c : Int} {R C : Nat} {xs : List Int} (h : Sides r c R C xs) : BoardOf R C := by
  obtain ⟨_, _, h1, h2, h3, h4, h9, _, _⟩ := h
  exact ⟨h1, h2, h3, h4, h9⟩
theorem player_of {p : Int} (h : playerB p = true) : ∃ P : Nat, p = (P : Int) ∧ (P = 1 ∨ P = 2) := by
  unfold playerB at h
  have := of_decide_eq_true h
  obtain ⟨P, rfl⟩ := Int.eq_ofNat_of_zero_le (show 0 ≤ p by omega)
  exact ⟨P, rfl, by omega⟩

variable (g : Nat → PV) (lf n : Nat)

/-! ### a set's list -/
theorem listFrom_length (set : Nat) : ∀ (m k : Nat), (listFrom set m k).length ≤ m
  | 0, _ => Nat.le_refl _
  | m + 1, k => by
    have := listFrom_length set m (k + 1)
    rw [listFrom]; split
    · rw [List.length_cons]; omega
    · omega
theorem listN_length (set : Nat) : (listN set).length ≤ 9 := listFrom_length set 9 0

theorem listFrom_nil {set : Nat} : ∀ (m k : Nat), set >>> k = 0 → listFrom set m k = []
  | 0, _, _ => rfl
  | m + 1, k, h => by
    have h2 : set >>> (k + 1) = 0 := by rw [Nat.shiftRight_add, h]; rfl
    rw [listFrom, h, if_neg (by decide), listFrom_nil m (k + 1) h2]

theorem list_loop {set : Nat} (hs : set < 2 ^ 9) : ∀ (m k fuel : Nat) (q : PV) (ys : List Int) (h : PHeap) (b : Nat), k + m = 9 → m < fuel → ys.length ≤ k → OwnSl b h q ys → b ≤ h.length →
    ∃ q' h', loopK (ev ((env g lf n).cx Tryd.prog spec_l2List.kl) spec_l2List.lp0) fuel (spec_l2List.st0 (.int .i64 (set : Int)) q (.int .i64 (k : Int)) h) (spec_l2List.K0 (env g lf n) (kTop Tryd.prog Tryd.f45)) = some (q', h') ∧
      OwnSl b h' q' (ys ++ listFrom set m k) ∧ Keep b h h'
  | m, k, fuel, q, ys, h, b, hkm, hf, hy, ho, hb => by
    obtain ⟨f, rfl⟩ : ∃ f, fuel = f + 1 := ⟨fuel - 1, by omega⟩
    obtain ⟨b1, b2, b3⟩ := bitq set k (by omega)
    have g1 : binP Tryd.prog .gtr 3 (.int .i64 ((set >>> k : Nat) : Int)) (.int .i64 0) = some (.bool (decide (0 < set >>> k))) := by
      rw [bin_gtr]
      congr 2
      apply decide_eq_decide.2
      omega
    by_cases hz : set >>> k = 0
    · refine ⟨q, h, ?_, by rw [listFrom_nil m k hz, List.append_nil]; exact ho, Keep.refl _ _⟩
      rw [loopK_succ, spec_l2List.body0_eq]
      rw [decide_eq_false (by omega)] at g1
      unfold spec_l2List.body0
      refine bd b1 (bd g1 (cdF ?_))
      rw [kLoop_exit, spec_l2List.after0_se0_0_3_4_9]
      exact bd ho.res rfl
    · match m with
      | 0 =>
        obtain rfl : k = 9 := by omega
        exact absurd (by rw [Nat.shiftRight_eq_div_pow]; exact Nat.div_eq_of_lt hs) hz
      | m + 1 =>
        have f4 : binP Tryd.prog .add 3 (.int .i64 (k : Int)) (.int .i64 1) = some (.int .i64 ((k + 1 : Nat) : Int)) := by rw [bin_add, nx (by omega)]
        rw [decide_eq_true (Nat.pos_of_ne_zero hz)] at g1
        rw [listFrom]
        by_cases e : set >>> k % 2 = 1
        · rw [if_pos e]
          rw [decide_eq_true e] at b3
          obtain ⟨v, q2, h2', hb2, ha2, ho2, hk2⟩ := ho.append hb (k : Int) (by omega)
          obtain ⟨q', h', ih, o', k'⟩ := list_loop hs m (k + 1) f q2 (ys ++ [(k : Int)]) h2' b (by omega) (by omega) (by simp; omega) ho2 (by have := hk2.1; omega)
          refine ⟨q', h', ?_, by simpa using o', hk2.trans k'⟩
          rw [loopK_succ, spec_l2List.body0_eq]
          unfold spec_l2List.body0
          exact bd b1 (bd g1 (cdT (bd b1 (bd b2 (bd b3 (cdT (bd hb2 (bd ha2 (bd f4 ih)))))))))
        · rw [if_neg e]
          rw [decide_eq_false e] at b3
          obtain ⟨q', h', ih, o', k'⟩ := list_loop hs m (k + 1) f q ys h b (by omega) (by omega) (by omega) ho hb
          refine ⟨q', h', ?_, o', k'⟩
          rw [loopK_succ, spec_l2List.body0_eq]
          unfold spec_l2List.body0
          exact bd b1 (bd g1 (cdT (bd b1 (bd b2 (bd b3 (cdF (bd f4 ih)))))))
termination_by m => m

theorem l2List_calls {set : Nat} (hs : set < 2 ^ 9) (N : Nat) (hN : 1 ≤ N) (hlf : 20 < lf) {h : PHeap} :
    ∃ q h', CL g lf N fn_spec_l2List [.int .i64 (set : Int)] h = some (q, h') ∧ OwnSl h.length h' q (listN set) ∧ Keep h.length h h' := by
  obtain ⟨n, rfl⟩ : ∃ n, N = n + 1 := ⟨N - 1, by omega⟩
  rw [spec_l2List.call_eq]
  obtain ⟨q0, h0, e0, o0, k0⟩ := empty_lit (h := h)
  obtain ⟨q', h', e, o, k⟩ := list_loop g lf n hs 9 0 lf q0 [] h0 h.length (by omega) (by omega) (by simp) o0 k0.1
  refine ⟨q', h', ?_, by simpa [listN] using o, k0.trans k⟩
  unfold spec_l2List.main
  exact bd e0 e

/-! ### gaps -/
/-! ### the functions -/
end Go.Proofs.YtfgjbfaapbhppaaDoor

/- The model's Filled and GapCells. -/
namespace Go.Proofs.YtfgjbfaapbhppaaDoor
open Go Go.Ip G

variable (g : Nat → PV) (lf n : Nat)

/-- An empty literal, and a whole list appended: a copy. -/
theorem copy_all {xs : List Int} {p : PV} {h : PHeap} (hp : IntSl .i64 h p xs) (hx : 0 < xs.length) (hl : xs.length ≤ 2 ^ 36) :
    ∃ v q h', buildSliceP Tryd.prog 23 0 [] h = some v ∧ appendP Tryd.prog 23 23 v.1 p v.2 = some (q, h') ∧ OwnSl h.length h' q xs ∧ Keep h.length h h' := by
  rcases hp with ⟨rfl, rfl⟩ | ⟨id, off, rfl, hc⟩
  · simp at hx
  have hid : id < h.length := lt_of_cell (hc 0 _ (List.getElem?_eq_getElem hx))
  have hb : buildSliceP Tryd.prog 23 0 [] h = some (.sl h.length 0 0, h ++ [.own 1 []]) := by
    simp [buildSliceP, tyElem, tySize, tyZero, repeatCells, fillP]
  have hcells : ((cellsAt (h ++ [PObj.own 1 []]) id).drop off).take (xs.length * 1) = xs.map (.int .i64) := by
    rw [Nat.mul_one]
    apply List.ext_getElem?
    intro j
    have e : cellsAt (h ++ [PObj.own 1 []]) id = cellsAt h id := by unfold cellsAt; rw [List.getElem?_append_left hid]
    rw [e]
    by_cases hj : j < xs.length
    · rw [List.getElem?_take_of_lt hj, List.getElem?_drop, hc j _ (List.getElem?_eq_getElem hj), List.getElem?_map, List.getElem?_eq_getElem hj]; rfl
    · rw [List.getElem?_eq_none (by rw [List.length_take]; omega), List.getElem?_eq_none (by simp; omega)]
  have hfit : off + xs.length * 1 ≤ (cellsAt (h ++ [PObj.own 1 []]) id).length := by
    have := congrArg List.length hcells
    simp only [List.length_take, List.length_drop, List.length_map, Nat.mul_one] at this ⊢
    omega
  have hsrc : srcP (h ++ [PObj.own 1 []]) 1 (.sl id off xs.length) = some (xs.length, xs.map (.int .i64)) := by
    simp only [srcP]
    rw [if_pos hfit, hcells]
  refine ⟨_, .sl (h.length + 1) 0 (0 + xs.length), ((h ++ [PObj.own 1 []]).set h.length .dead ++ [PObj.own 1 ([] ++ xs.map (.int .i64))]), hb, ?_, .inr ⟨h.length + 1, by omega, by simp, ?_⟩, ?_⟩
  · simp only [appendP, tyElem, tySize, tySmall, bne_self_eq_false, Bool.not_true, Bool.or_self, Bool.false_eq_true, if_false, hsrc, Option.bind_some]
    have h3 : (h ++ [PObj.own 1 []])[h.length]? = some (.own 1 []) := by simp
    rw [h3]
    have : 0 + xs.length ≤ 2 ^ 36 := by omega
    simp only [List.length_nil, Nat.zero_mul, true_and, if_pos this]
    simp
  · rw [List.getElem?_append_right (by simp)]; simp
  · exact (((Keep.append _ h _ (Nat.le_refl _)).trans (Keep.set _ _ h.length .dead (Nat.le_refl _))).trans (Keep.append _ _ _ (by simp)))

/-! ### the cells that close a gap -/
def gcFrom (r c : Int) (xs : List Int) (p G : Int) : Nat → Nat → List Int
  | 0, _ => []
  | m + 1, k => if xs.getD k 0 = 0 ∧ gapL r c (xs.set k p) p = G - 1 then (k : Int) :: gcFrom r c xs p G m (k + 1) else gcFrom r c xs p G m (k + 1)

theorem gcFrom_length (r c : Int) (xs : List Int) (p G : Int) : ∀ m k, (gcFrom r c xs p G m k).length ≤ m
  | 0, _ => Nat.le_refl _
  | m + 1, k => by
    have := gcFrom_length r c xs p G m (k + 1)
    rw [gcFrom]; split
    · rw [List.length_cons]; omega
    · omega

theorem gcFrom_eq (r c : Int) (xs : List Int) (p G : Int) : ∀ m k, gcFrom r c xs p G m k = ((List.range' k m).filter fun k => decide (xs.getD k 0 = 0) && decide (gapL r c (xs.set k p) p = G - 1)).map fun k : Nat => (k : Int)
  | 0, _ => rfl
  | m + 1, k => by
    rw [gcFrom, List.range'_succ, List.filter_cons, gcFrom_eq r c xs p G m (k + 1)]
    by_cases h : xs.getD k 0 = 0 ∧ gapL r c (xs.set k p) p = G - 1
    · rw [if_pos h, decide_eq_true h.1, decide_eq_true h.2]; rfl
    · rw [if_neg h, if_neg (by rw [Bool.and_eq_true, decide_eq_true_iff, decide_eq_true_iff]; exact h)]

theorem gapL_eq {R C P : Nat} {xs : List Int} (hb : posB (R : Int) (C : Int) xs = true) (hP : P = 1 ∨ P = 2) : gapL (R : Int) (C : Int) xs (P : Int) = gapN (masksN R C) (setL xs (P : Int)) (setL xs 0) (sideN R C P false) (sideN R C P true) (R * C) := by
  have hp : playerB (P : Int) = true := by rcases hP with rfl | rfl <;> rfl
  unfold gapL
  rw [hb, hp]; rfl

theorem gapL_small (r c : Int) (xs : List Int) (p : Int) : -1 ≤ gapL r c xs p ∧ gapL r c xs p ≤ 9 := by
  cases hbp : (posB r c xs && playerB p) with
  | false => unfold gapL; rw [hbp]; simp
  | true =>
    rw [Bool.and_eq_true] at hbp
    obtain ⟨R, C, hS⟩ := sides_of hbp.1
    obtain ⟨P, rfl, hP⟩ := player_of hbp.2
    obtain ⟨rfl, rfl, _, _, _, _, h9, hlen, _⟩ := id hS
    rw [gapL_eq hbp.1 hP]
    have hst := setL_lt (P : Int) (xs := xs) (n := 9) (by omega)
    have hst0 := setL_lt 0 (xs := xs) (n := R * C) (by omega)
    rcases gapN_spec (M := masksN R C) (own := setL xs (P : Int)) (edge := sideN R C P false) (last := sideN R C P true) h9 hst hst0 with ⟨k, hk, hg⟩ | ⟨hk, _⟩
    · have := gap_pop (Nat.lt_of_lt_of_le hst0 (Nat.pow_le_pow_right (by decide) h9)) hg
      have := pop_le h9 hst0
      rw [hk]; omega
    · rw [hk]; omega

end Go.Proofs.YtfgjbfaapbhppaaDoor

/- Of all boards and all sets of cells: exactly one has joined on a full board; turned, and mirrored. No program text. -/
namespace Go.Proofs.YtfgjbfaapbhppaaDoor

def boards : List (Nat × Nat) := [(1, 1), (1, 2), (1, 3), (1, 4), (2, 1), (2, 2), (2, 3), (2, 4), (3, 1), (3, 2), (3, 3), (4, 1), (4, 2)]
theorem board_mem {R C : Nat} (h : BoardOf R C) : (R, C) ∈ boards := by
  obtain ⟨h1, h2, h3, h4, h9⟩ := h
  have hR : R = 1 ∨ R = 2 ∨ R = 3 ∨ R = 4 := by omega
  have hC : C = 1 ∨ C = 2 ∨ C = 3 ∨ C = 4 := by omega
  rcases hR with rfl | rfl | rfl | rfl <;> rcases hC with rfl | rfl | rfl | rfl <;> first | decide | omega

/-- The cells of a set, each at another place. -/
def moved (f : Nat → Nat) (S : Nat) : Nat → Nat
  | 0 => 0
  | k + 1 => moved f S k ||| (if S.testBit k then 1 <<< f k else 0)

def hexB (R C S : Nat) : Bool :=
  (joinsN R C 1 S != joinsN R C 2 (2 ^ (R * C) - 1 - S)) &&
  (joinsN R C 1 (moved (fun k => R * C - 1 - k) S (R * C)) == joinsN R C 1 S) && (joinsN R C 2 (moved (fun k => R * C - 1 - k) S (R * C)) == joinsN R C 2 S) &&
  (joinsN C R 2 (moved (sig C R) S (R * C)) == joinsN R C 1 S) && (joinsN C R 1 (moved (sig C R) S (R * C)) == joinsN R C 2 S)

theorem hex_all : (boards.all fun b => (List.range (2 ^ (b.1 * b.2))).all fun S => hexB b.1 b.2 S) = true := by kernel_rfl

theorem hex_ok {R C S : Nat} (hb : BoardOf R C) (hS : S < 2 ^ (R * C)) : hexB R C S = true := by
  have := List.all_eq_true.1 hex_all (R, C) (board_mem hb)
  exact List.all_eq_true.1 this S (by rw [List.mem_range]; exact hS)

end Go.Proofs.YtfgjbfaapbhppaaDoor

/- Promise 6: mirrored twice it is as before. -/
namespace Go.Proofs.YtfgjbfaapbhppaaDoor
open Go Go.Ip Go.RowKit G

variable (g : Nat → PV) (lf n : Nat)

theorem swapI_swapI (x : Int) : swapI (swapI x) = x := by
  unfold swapI
  by_cases h1 : x = 1
  · subst h1; decide
  · by_cases h2 : x = 2
    · subst h2; decide
    · simp [h1, h2]

theorem swapI_one (x : Int) : (swapI x == 1) = (x == 2) := by
  unfold swapI
  by_cases h1 : x = 1
  · subst h1; decide
  · by_cases h2 : x = 2
    · subst h2; decide
    · have b1 : (x == 1) = false := by simp [h1]
      have b2 : (x == 2) = false := by simp [h2]
      rw [if_neg h1, if_neg h2, b1, b2]

theorem swapI_content (x : Int) : contentB (swapI x) = contentB x := by
  unfold swapI
  by_cases h1 : x = 1
  · subst h1; decide
  · by_cases h2 : x = 2
    · subst h2; decide
    · simp [h1, h2]

theorem sig_perm_small : ∀ R : Fin 5, ∀ C : Fin 5, R.1 * C.1 ≤ 9 → ((List.range (R.1 * C.1)).map (sig R.1 C.1)).isPerm (List.range (R.1 * C.1)) = true := by decide

theorem sig_perm {R C : Nat} (h2 : R ≤ 4) (h4 : C ≤ 4) (h9 : R * C ≤ 9) : ((List.range (R * C)).map (sig R C)).Perm (List.range (R * C)) :=
  List.isPerm_iff.1 (sig_perm_small ⟨R, by omega⟩ ⟨C, by omega⟩ h9)

theorem map_getD_range (xs : List Int) : (List.range xs.length).map (fun k => xs.getD k 0) = xs := by
  apply List.ext_getElem?
  intro k
  rw [List.getElem?_map]
  by_cases hk : k < xs.length
  · rw [List.getElem?_range hk, List.getElem?_eq_getElem hk, Option.map_some, List.getD_eq_getElem?_getD, List.getElem?_eq_getElem hk]; rfl
  · rw [List.getElem?_eq_none (by rw [List.length_range]; omega), List.getElem?_eq_none (by omega)]; rfl

theorem mir_eq (R C : Nat) (xs : List Int) : mir R C xs = (((List.range xs.length).map (sig R C)).map (fun k => xs.getD k 0)).map swapI := by
  unfold mir
  rw [List.map_map, List.map_map]; rfl

theorem mir_perm {R C : Nat} {xs : List Int} (h2 : R ≤ 4) (h4 : C ≤ 4) (h9 : R * C ≤ 9) (hl : xs.length = R * C) : (mir R C xs).Perm (xs.map swapI) := by
  rw [mir_eq]
  refine List.Perm.map _ ?_
  have := (sig_perm h2 h4 h9).map (fun k => xs.getD k 0)
  rw [← hl, map_getD_range] at this
  exact this

theorem mir_length (R C : Nat) (xs : List Int) : (mir R C xs).length = xs.length := by simp [mir]

theorem count_swap (xs : List Int) : (xs.map swapI).count 1 = xs.count 2 := by
  induction xs with
  | nil => rfl
  | cons x xs ih => rw [List.map_cons, List.count_cons, List.count_cons, ih, swapI_one]

theorem mir_get {R C : Nat} {xs : List Int} {k : Nat} (hk : k < xs.length) : (mir R C xs)[k]? = some (swapI (xs.getD (sig R C k) 0)) := by
  unfold mir
  rw [List.getElem?_map, List.getElem?_range hk]; rfl

theorem mir_mir {R C : Nat} {xs : List Int} (h1 : 1 ≤ R) (h2 : R ≤ 4) (h3 : 1 ≤ C) (h4 : C ≤ 4) (h9 : R * C ≤ 9) (hl : xs.length = R * C) : mir C R (mir R C xs) = xs := by
  apply List.ext_getElem?
  intro k
  by_cases hk : k < xs.length
  · have hs := sig_lt (k := k) h3 h4 h1 h2 (by rw [Nat.mul_comm]; exact h9) (by rw [Nat.mul_comm C R]; omega)
    rw [Nat.mul_comm C R] at hs
    rw [mir_get (by rw [mir_length]; exact hk), List.getD_eq_getElem?_getD, mir_get (by omega), Option.getD_some, swapI_swapI, hs.2, List.getD_eq_getElem?_getD, List.getElem?_eq_getElem hk]; rfl
  · rw [List.getElem?_eq_none (by rw [mir_length, mir_length]; omega), List.getElem?_eq_none (by omega)]

theorem boardB_swap (r c : Int) : boardB c r = boardB r c := by
  unfold boardB
  rw [Int.mul_comm c r]
  apply decide_eq_decide.2
  constructor <;> intro h <;> omega

theorem posB_mir {r c : Int} {R C : Nat} {xs : List Int} (hs : Sides r c R C xs) (hp : posB r c xs = true) : posB c r (mir R C xs) = true := by
  obtain ⟨_, _, h1, h2, h3, h4, h9, hl, hall⟩ := hs
  unfold posB at hp ⊢
  rw [boardB_swap, mir_length, Int.mul_comm c r]
  rw [Bool.and_eq_true] at hp ⊢
  refine ⟨hp.1, ?_⟩
  rw [List.all_eq_true]
  intro x hx
  have := (mir_perm h2 h4 h9 hl).mem_iff.1 hx
  obtain ⟨y, hy, rfl⟩ := List.mem_map.1 this
  rw [swapI_content]
  exact List.all_eq_true.1 hall y hy

theorem cells_count {r c : Int} {xs : List Int} (h : posB r c xs = true) (x : Int) : (cellsL r c xs x).length = xs.count x := by
  unfold cellsL
  rw [if_pos h, cellsFrom_count]

theorem cells_mir {r c : Int} {R C : Nat} {xs : List Int} (hs : Sides r c R C xs) (hp : posB r c xs = true) : (cellsL c r (mir R C xs) 1).length = (cellsL r c xs 2).length := by
  obtain ⟨_, _, h1, h2, h3, h4, h9, hl, hall⟩ := id hs
  rw [cells_count (posB_mir hs hp), cells_count hp, (mir_perm h2 h4 h9 hl).count_eq, count_swap]

end Go.Proofs.YtfgjbfaapbhppaaDoor

