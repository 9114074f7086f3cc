/- What both functions that mirror a position compute, and the exact law on them. -/
import Derived.Test.YtaajbolfmhhdcaaP5
namespace Go.Proofs.Ytaajbolfmhhdcaa
open Go Go.Ip Go.RowKit G

variable (g : Nat → PV) (lf n : Nat)

def swapI (x : Int) : Int := if x = 1 then 2 else if x = 2 then 1 else x
/-- Where the mirrored position's cell k comes from: of a board of R rows and C columns. -/
def sig (R C k : Nat) : Nat := k % R * C + k / R
def mir (R C : Nat) (xs : List Int) : List Int := (List.range xs.length).map fun k => swapI (xs.getD (sig R C k) 0)
def mirL (r c : Int) (xs : List Int) : List Int := if posB r c xs = true then mir r.toNat c.toNat xs else []

theorem mirL_length (r c : Int) (xs : List Int) : (mirL r c xs).length ≤ xs.length := by
  unfold mirL mir; split <;> simp

theorem sig_small : ∀ R : Fin 5, ∀ C : Fin 5, ∀ k : Fin 10, 1 ≤ R.1 → 1 ≤ C.1 → k.1 < R.1 * C.1 → sig R.1 C.1 k.1 < R.1 * C.1 ∧ sig C.1 R.1 (sig R.1 C.1 k.1) = k.1 := by decide

/-- A board's sides, as numbers. -/
def Sides (r c : Int) (R C : Nat) (xs : List Int) : Prop := r = (R : Int) ∧ c = (C : Int) ∧ 1 ≤ R ∧ R ≤ 4 ∧ 1 ≤ C ∧ C ≤ 4 ∧ R * C ≤ 9 ∧ xs.length = R * C ∧ xs.all contentB = true

theorem sides_of {r c : Int} {xs : List Int} (h : posB r c xs = true) : ∃ R C, Sides r c R C xs := by
  unfold posB at h
  rw [Bool.and_eq_true, Bool.and_eq_true] at h
  have hb := h.1.1
  unfold boardB at hb
  have hm := of_decide_eq_true hb
  have hl := of_decide_eq_true h.1.2
  obtain ⟨R, rfl⟩ := Int.eq_ofNat_of_zero_le (show 0 ≤ r by omega)
  obtain ⟨C, rfl⟩ := Int.eq_ofNat_of_zero_le (show 0 ≤ c by omega)
  have h9 := hm.2.2.2.2
  rw [← Int.natCast_mul] at h9 hl
  exact ⟨R, C, rfl, rfl, by omega, by omega, by omega, by omega, by omega, by omega, h.2⟩

theorem sig_lt {R C k : Nat} (h1 : 1 ≤ R) (h2 : R ≤ 4) (h3 : 1 ≤ C) (h4 : C ≤ 4) (h9 : R * C ≤ 9) (hk : k < R * C) : sig R C k < R * C ∧ sig C R (sig R C k) = k :=
  sig_small ⟨R, by omega⟩ ⟨C, by omega⟩ ⟨k, by omega⟩ h1 h3 hk

theorem f_rem (i R : Nat) (hR : 1 ≤ R) : binP Try.prog .rem 3 (.int .i64 (i : Int)) (.int .i64 (R : Int)) = some (.int .i64 ((i % R : Nat) : Int)) := by
  rw [bin_rem (show (R : Int) ≠ 0 by omega)]; rfl
theorem f_quo (i R : Nat) (hR : 1 ≤ R) (hi : i ≤ 1000) : binP Try.prog .quo 3 (.int .i64 (i : Int)) (.int .i64 (R : Int)) = some (.int .i64 ((i / R : Nat) : Int)) := by
  rw [bin_quo (show (R : Int) ≠ 0 by omega), show ((i : Int).tdiv (R : Int)) = ((i / R : Nat) : Int) from rfl]
  have := Nat.div_le_self i R
  obtain ⟨q, hq⟩ : ∃ q, q = i / R := ⟨_, rfl⟩
  rw [← hq] at this ⊢
  rw [wr (by omega)]
theorem f_mul (a b : Nat) (h : a * b ≤ 1000) : binP Try.prog .mul 3 (.int .i64 (a : Int)) (.int .i64 (b : Int)) = some (.int .i64 ((a * b : Nat) : Int)) := by
  rw [bin_mul, ← Int.natCast_mul, wr (by omega)]
theorem f_add (a b : Nat) (h : a + b ≤ 1000) : binP Try.prog .add 3 (.int .i64 (a : Int)) (.int .i64 (b : Int)) = some (.int .i64 ((a + b : Nat) : Int)) := by
  rw [bin_add, ← Int.natCast_add, wr (by omega)]

theorem mirroredCell_N (N : Nat) (hN : 1 ≤ N) (h : PHeap) {R C i : Nat} (h1 : 1 ≤ R) (h2 : R ≤ 4) (h3 : 1 ≤ C) (h4 : C ≤ 4) (h9 : R * C ≤ 9) (hi : i < R * C) :
    CL g lf N fn_impl_mirroredCell [.int .i64 (R : Int), .int .i64 (C : Int), .int .i64 (i : Int)] h = some (.int .i64 ((sig C R i : Nat) : Int), h) := by
  obtain ⟨n, rfl⟩ : ∃ n, N = n + 1 := ⟨N - 1, by omega⟩
  rw [impl_mirroredCell.call_eq]
  have hs := (sig_lt h3 h4 h1 h2 (by rw [Nat.mul_comm]; exact h9) (by rw [Nat.mul_comm]; exact hi) : sig C R i < C * R ∧ _).1
  rw [Nat.mul_comm C R] at hs
  unfold sig at hs ⊢
  have hle := Nat.le_add_right (i % C * R) (i / C)
  unfold impl_mirroredCell.main
  exact bd (f_rem i C h3) (bd (f_mul _ _ (by omega)) (bd (f_quo i C h3 (by omega)) (bd (f_add _ _ (by omega)) (bd res_int rfl))))

theorem exchanged_N (N : Nat) (hN : 1 ≤ N) (h : PHeap) (x : Int) : CL g lf N fn_impl_exchanged [.int .i64 x] h = some (.int .i64 (swapI x), h) := by
  obtain ⟨n, rfl⟩ : ∃ n, N = n + 1 := ⟨N - 1, by omega⟩
  rw [impl_exchanged.call_eq]
  by_cases h1 : x = 1
  · subst h1; simp [impl_exchanged.main, swapI]
  · by_cases h2 : x = 2
    · subst h2; simp [impl_exchanged.main, swapI]
    · have b1 : (x == 1) = false := by simp [h1]
      have b2 : (x == 2) = false := by simp [h2]
      simp [impl_exchanged.main, swapI, b1, b2, h1, h2]

theorem l1Other_N (N : Nat) (hN : 1 ≤ N) (h : PHeap) {x : Int} (hx : contentB x = true) : CL g lf N fn_spec_l1Other [.int .i64 x] h = some (.int .i64 (swapI x), h) := by
  obtain ⟨n, rfl⟩ : ∃ n, N = n + 1 := ⟨N - 1, by omega⟩
  rw [spec_l1Other.call_eq]
  unfold contentB at hx
  have hx := of_decide_eq_true hx
  have : x = 0 ∨ x = 1 ∨ x = 2 := by omega
  rcases this with rfl | rfl | rfl
  · simp [spec_l1Other.main, swapI]
  · simp [spec_l1Other.main, swapI, wr]
  · simp [spec_l1Other.main, swapI, wr]

theorem mirI_loop {xs : List Int} {p : PV} {r c : Int} {R C : Nat} (hs : Sides r c R C xs) (hn : 1 ≤ n) : ∀ (m i fuel : Nat) (q : PV) (ys : List Int) (h : PHeap) (b : Nat), i + m = xs.length → m < fuel → ys.length = xs.length →
    OwnSl b h q ys → b ≤ h.length → (∀ h', Keep b h h' → IntSl .i64 h' p xs) →
    ∃ h' zs, loopK (ev ((env g lf n).cx Try.prog impl_Mirrored.kl) impl_Mirrored.lp0) fuel (impl_Mirrored.st0 (.int .i64 (R : Int)) (.int .i64 (C : Int)) q p (.int .i64 (xs.length : Int)) (.int .i64 (i : Int)) h) (impl_Mirrored.K0 (env g lf n) (kTop Try.prog Try.f29)) = some (q, h') ∧
      OwnSl b h' q zs ∧ zs.length = xs.length ∧ (∀ j : Nat, j < xs.length → zs[sig C R j]? = if i ≤ j then (xs[j]?).map swapI else ys[sig C R j]?) ∧ Keep b h h'
  | 0, i, fuel, q, ys, h, b, him, hf, hy, ho, hb, hp => by
    obtain ⟨f, rfl⟩ : ∃ f, fuel = f + 1 := ⟨fuel - 1, by omega⟩
    refine ⟨h, ys, ?_, ho, hy, fun j hj => by rw [if_neg (by omega)], Keep.refl _ _⟩
    rw [loopK_succ, impl_Mirrored.body0_eq]
    have f1 : binP Try.prog .lss 3 (.int .i64 (i : Int)) (.int .i64 (xs.length : Int)) = some (.bool false) := by rw [bin_lss, decide_eq_false (by omega)]
    unfold impl_Mirrored.body0
    refine bd f1 (cdF ?_)
    show impl_Mirrored.K0 (env g lf n) _ (.exit 0) _ = _
    rw [impl_Mirrored.after0_se0_0_1_7_18_19_20_21]
    exact bd ho.res rfl
  | m + 1, i, fuel, q, ys, h, b, him, hf, hy, ho, hb, hp => by
    obtain ⟨f, rfl⟩ : ∃ f, fuel = f + 1 := ⟨fuel - 1, by omega⟩
    obtain ⟨hr, hc, h1, h2, h3, h4, h9, hlen, hall⟩ := id hs
    have hi : i < xs.length := by omega
    have hp0 := hp h (Keep.refl _ _)
    obtain ⟨a, ha, hla⟩ := hp0.at' hi
    have hsig : ∀ j, j < xs.length → sig C R j < xs.length ∧ sig R C (sig C R j) = j := fun j hj => by
      have := sig_lt (k := j) h3 h4 h1 h2 (by rw [Nat.mul_comm]; exact h9) (by rw [Nat.mul_comm C R]; omega)
      rw [Nat.mul_comm C R, ← hlen] at this
      exact this
    obtain ⟨a2, h2', ha2, hs2, ho2, hk2, hlen2⟩ := ho.store (show sig C R i < ys.length by have := (hsig i hi).1; omega) (swapI xs[i])
    obtain ⟨h', zs, hr', ho', hz, hzz, hk'⟩ := mirI_loop hs hn m (i + 1) f q (ys.set (sig C R i) (swapI xs[i])) h2' b (by omega) (by omega) (by simpa using hy) ho2 (by omega) (fun h3 hk3 => hp h3 (hk2.trans hk3))
    refine ⟨h', zs, ?_, ho', hz, ?_, hk2.trans hk'⟩
    · rw [loopK_succ, impl_Mirrored.body0_eq]
      have f1 : binP Try.prog .lss 3 (.int .i64 (i : Int)) (.int .i64 (xs.length : Int)) = some (.bool true) := by rw [bin_lss, decide_eq_true (by omega)]
      have f3 : binP Try.prog .add 3 (.int .i64 (i : Int)) (.int .i64 1) = some (.int .i64 ((i + 1 : Nat) : Int)) := by rw [bin_add, nx (by omega)]
      have e1 := mirroredCell_N g lf n hn h h1 h2 h3 h4 h9 (show i < R * C by omega)
      have e2 := exchanged_N g lf n hn h xs[i]
      unfold impl_Mirrored.body0
      refine bd f1 (cdT ?_)
      exact bd ha (bd hla (bd e1 (bd e2 (bd ha2 (bd hs2 (bd f3 hr'))))))
    · intro j hj
      rw [hzz j hj]
      by_cases c1 : i + 1 ≤ j
      · rw [if_pos c1, if_pos (by omega)]
      · rw [if_neg c1]
        by_cases c2 : i = j
        · subst c2
          rw [if_pos (Nat.le_refl _), List.getElem?_set_self (by have := (hsig i hi).1; omega), List.getElem?_eq_getElem hi]; rfl
        · have hne : sig C R i ≠ sig C R j := fun e => c2 (by rw [← (hsig i hi).2, ← (hsig j hj).2, e])
          rw [if_neg (by omega), List.getElem?_set_ne hne]

theorem mirrored_calls {xs : List Int} {p : PV} {h : PHeap} (N : Nat) (hN : 4 ≤ N) (r c : Int) (hp : IntSl .i64 h p xs) (hl : xs.length ≤ 2 ^ 35) (hf : xs.length < lf) :
    ∃ q h', CL g lf N fn_impl_Mirrored [.int .i64 r, .int .i64 c, p] h = some (q, h') ∧ OwnSl h.length h' q (mirL r c xs) ∧ Keep h.length h h' := by
  obtain ⟨n, rfl⟩ : ∃ n, N = n + 1 := ⟨N - 1, by omega⟩
  rw [impl_Mirrored.call_eq]
  have hpos := positionOk_N g lf n (by omega) r c hp (by omega) hf
  unfold mirL
  cases hb : posB r c xs with
  | false => exact ⟨.nilsl, h, by simp [impl_Mirrored.main, hpos, hb], OwnSl.nil _ _, Keep.refl _ _⟩
  | true =>
    rw [hb] at hpos
    obtain ⟨R, C, hs⟩ := sides_of hb
    obtain ⟨rfl, rfl, h1, h2, h3, h4, h9, hlen, hall⟩ := id hs
    obtain ⟨q, ha, hm, ho, hk⟩ := made (h := h) (m := xs.length) (by omega)
    obtain ⟨h', zs, hr, ho', hz, hzz, hk'⟩ := mirI_loop g lf n hs (by omega) xs.length 0 lf q (List.replicate xs.length 0) ha h.length (by omega) hf (by simp) ho hk.1 (fun h' hk' => hp.keep (hk.trans hk'))
    refine ⟨q, h', ?_, ?_, hk.trans hk'⟩
    · unfold impl_Mirrored.main
      refine bd hpos (bd un_not (cdF ?_))
      exact bd hp.len' (bd hm (bd hp.len' hr))
    · rw [if_pos rfl]
      have : zs = mir ((R : Int).toNat) ((C : Int).toNat) xs := by
        show zs = mir R C xs
        apply List.ext_getElem?
        intro k
        by_cases hk : k < xs.length
        · have hsk := sig_lt (k := k) h1 h2 h3 h4 h9 (by omega)
          have hj : sig R C k < xs.length := by omega
          have := hzz (sig R C k) hj
          rw [if_pos (Nat.zero_le _), hsk.2, List.getElem?_eq_getElem hj] at this
          rw [this]
          unfold mir
          rw [List.getElem?_map, List.getElem?_range hk, Option.map_some, Option.map_some, List.getD_eq_getElem?_getD, List.getElem?_eq_getElem hj]; rfl
        · rw [List.getElem?_eq_none (by omega), List.getElem?_eq_none (by unfold mir; simp; omega)]
      rw [← this]; exact ho'

theorem mirS_loop {xs : List Int} {p : PV} {r c : Int} {R C : Nat} (hs : Sides r c R C xs) (hn : 3 ≤ n) (hlf : xs.length < lf) (hb : posB r c xs = true) : ∀ (m i fuel : Nat) (q : PV) (ys : List Int) (h : PHeap) (b : Nat), i + m = xs.length → m < fuel → ys.length = i →
    OwnSl b h q ys → b ≤ h.length → (∀ h', Keep b h h' → IntSl .i64 h' p xs) →
    ∃ q' h', loopK (ev ((env g lf n).cx Try.prog spec_Mirrored.kl) spec_Mirrored.lp0) fuel (spec_Mirrored.st0 (.int .i64 (R : Int)) (.int .i64 (C : Int)) p q (.int .i64 (i : Int)) h) (spec_Mirrored.K0 (env g lf n) (kTop Try.prog Try.f30)) = some (q', h') ∧
      OwnSl b h' q' (ys ++ ((List.range xs.length).drop i).map fun k => swapI (xs.getD (sig R C k) 0)) ∧ Keep b h h'
  | 0, i, fuel, q, ys, h, b, him, hf, hy, ho, hb', hp => by
    obtain ⟨f, rfl⟩ : ∃ f, fuel = f + 1 := ⟨fuel - 1, by omega⟩
    refine ⟨q, h, ?_, ?_, Keep.refl _ _⟩
    · rw [loopK_succ, spec_Mirrored.body0_eq]
      have hlt : ¬ ((i : Int) < (xs.length : Int)) := by omega
      simp [spec_Mirrored.body0, (hp h (Keep.refl _ _)).len', hlt, spec_Mirrored.after0_se0_0_1_2_7_8_19, ho.res]
    · rw [List.drop_eq_nil_of_le (by simp; omega)]; simpa using ho
  | m + 1, i, fuel, q, ys, h, b, him, hf, hy, ho, hb', hp => by
    obtain ⟨f, rfl⟩ : ∃ f, fuel = f + 1 := ⟨fuel - 1, by omega⟩
    obtain ⟨rfl, rfl, h1, h2, h3, h4, h9, hlen, hall⟩ := id hs
    have hp0 := hp h (Keep.refl _ _)
    have hi : i < xs.length := by omega
    have hsk := sig_lt (k := i) h1 h2 h3 h4 h9 (by omega)
    have hj : sig R C i < xs.length := by omega
    obtain ⟨a, ha, hla⟩ := hp0.at' hj
    have hpos := specPositionOk_N g lf n hn (R : Int) (C : Int) hp0 (by omega) hlf
    rw [hb] at hpos
    have hx : contentB xs[sig R C i] = true := List.all_eq_true.1 hall _ (List.getElem_mem hj)
    have e1 := l1Other_N g lf n (by omega) h hx
    obtain ⟨v, q2, h2', hb2, ha2, ho2, hk2⟩ := ho.append hb' (swapI xs[sig R C i]) (by omega)
    obtain ⟨q', h', hr, ho', hk'⟩ := mirS_loop hs hn hlf hb m (i + 1) f q2 (ys ++ [swapI xs[sig R C i]]) h2' b (by omega) (by omega) (by simp; omega) ho2 (by have := hk2.1; omega) (fun h3 hk3 => hp h3 (hk2.trans hk3))
    refine ⟨q', h', ?_, ?_, hk2.trans hk'⟩
    · rw [loopK_succ, spec_Mirrored.body0_eq]
      have f1 : binP Try.prog .lss 3 (.int .i64 (i : Int)) (.int .i64 (xs.length : Int)) = some (.bool true) := by rw [bin_lss, decide_eq_true (by omega)]
      have f3 : binP Try.prog .add 3 (.int .i64 (i : Int)) (.int .i64 1) = some (.int .i64 ((i + 1 : Nat) : Int)) := by rw [bin_add, nx (by omega)]
      have wt : wantV (.bool true) true = some true := want_bool (x := true) (y := true)
      have hle : sig R C i ≤ 9 := by omega
      unfold sig at hle ha
      have hle2 := Nat.le_add_right (i % R * C) (i / R)
      have fm := f_mul (i % R) C (by omega)
      have fa := f_add (i % R * C) (i / R) (by omega)
      unfold spec_Mirrored.body0
      refine bd hp0.len' (bd f1 (bd wt (bd (v := (PV.int .i64 (R : Int), h)) rfl (bd wt (bd (v := (PV.int .i64 (C : Int), h)) rfl (bd wt (bd (v := (p, h)) rfl (bd wt (bd hpos (bd (v := PV.bool true) rfl (cdT ?_)))))))))))
      exact bd (f_rem i R h1) (bd fm (bd (f_quo i R h1 (by omega)) (bd fa (bd ha (bd hla (bd e1 (bd hb2 (bd ha2 (bd f3 hr)))))))))
    · have hd : (List.range xs.length).drop i = i :: (List.range xs.length).drop (i + 1) := by
        rw [List.drop_eq_getElem_cons (by simpa using hi)]; simp
      rw [hd, List.map_cons]
      have hg : xs.getD (sig R C i) 0 = xs[sig R C i] := by rw [List.getD_eq_getElem?_getD, List.getElem?_eq_getElem hj]; rfl
      rw [hg]
      simpa using ho'

theorem specMirrored_calls {xs : List Int} {p : PV} {h : PHeap} (N : Nat) (hN : 4 ≤ N) (r c : Int) (hp : IntSl .i64 h p xs) (hl : xs.length ≤ 2 ^ 35) (hf : xs.length < lf) :
    ∃ q h', CL g lf N fn_spec_Mirrored [.int .i64 r, .int .i64 c, p] h = some (q, h') ∧ OwnSl h.length h' q (mirL r c xs) ∧ Keep h.length h h' := by
  obtain ⟨n, rfl⟩ : ∃ n, N = n + 1 := ⟨N - 1, by omega⟩
  rw [spec_Mirrored.call_eq]
  obtain ⟨q1, h1, he1, ho1, hk1⟩ := empty_lit (h := h)
  unfold mirL
  cases hb : posB r c xs with
  | true =>
    obtain ⟨R, C, hs⟩ := sides_of hb
    obtain ⟨rfl, rfl, _⟩ := id hs
    obtain ⟨q', h', hr, ho', hk'⟩ := mirS_loop g lf n hs (by omega) hf hb xs.length 0 lf q1 [] h1 h.length (by omega) hf rfl ho1 hk1.1 (fun h' hk => hp.keep (hk1.trans hk))
    refine ⟨q', h', ?_, by rw [if_pos rfl]; simpa [mir] using ho', hk1.trans hk'⟩
    unfold spec_Mirrored.main
    exact bd he1 hr
  | false =>
    refine ⟨q1, h1, ?_, by simpa using ho1, hk1⟩
    obtain ⟨f, rfl⟩ : ∃ f, lf = f + 1 := ⟨lf - 1, by omega⟩
    have hpos := specPositionOk_N g (f + 1) n (by omega) r c (hp.keep hk1) (by omega) hf
    simp only [spec_Mirrored.main, env_buildSlice, env_lf, he1, Option.bind_some]
    rw [loopK_succ, spec_Mirrored.body0_eq]
    by_cases h0 : 0 < xs.length
    · simp [spec_Mirrored.body0, (hp.keep hk1).len', h0, hpos, hb, spec_Mirrored.after0_se0_0_1_2_7_8_19, ho1.res]
    · simp [spec_Mirrored.body0, (hp.keep hk1).len', h0, spec_Mirrored.after0_se0_0_1_2_7_8_19, ho1.res]

theorem exactMirrored_calls {xs : List Int} {p : PV} {h : PHeap} (r c : Int) (hp : IntSl .i64 h p xs) (hf : 1048576 < lf) :
    ∃ h', CL g lf (n + 5) fn_laws_FnExactMirrored [.int .i64 r, .int .i64 c, p] h = some (.bool true, h') := by
  rw [laws_FnExactMirrored.call_eq]
  by_cases hbig : (1048576 : Int) < (xs.length : Int)
  · exact ⟨h, by simp [laws_FnExactMirrored.main, hp.len', hbig]⟩
  · have hl : xs.length ≤ 1048576 := by omega
    have hL := mirL_length r c xs
    obtain ⟨q1, h1, w, h2, q3, h3, g0, h4, y, h5, h6, h7, q8, h8, g1, h9, e1, e2, e3, e4, e5, e6, e7, e8, e9, e10, e11, e12, e13, e14, e15⟩ := exact_chain g lf (n + 4) (by omega)
      (fun q h => CL g lf (n + 4) fn_spec_Mirrored [.int .i64 r, .int .i64 c, q] h) (fun q h => CL g lf (n + 4) fn_impl_Mirrored [.int .i64 r, .int .i64 c, q] h)
      (fun q h hq => specMirrored_calls g lf (n + 4) (by omega) r c hq (by omega) (by omega)) (fun q h hq => mirrored_calls g lf (n + 4) (by omega) r c hq (by omega) (by omega)) hp hl (by omega) hf
    refine ⟨h9, ?_⟩
    have c1 : ¬ ((1 : Int) + (xs.length : Int) < 0) := by omega
    have c2 : ¬ ((1 : Int) + ((mirL r c xs).length : Int) < 0) := by omega
    simp [laws_FnExactMirrored.main, hp.len', hbig, e1, e2, e3, e4, e5, e6, e7, e8, e9, e10, e11, e12, e13, e14, e15, c1, c2]

end Go.Proofs.Ytaajbolfmhhdcaa
