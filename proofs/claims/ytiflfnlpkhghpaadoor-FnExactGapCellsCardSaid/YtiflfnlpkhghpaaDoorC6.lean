/- What both functions that mirror a position compute, and the exact law on them. -/
import Derived.Test.YtiflfnlpkhghpaaDoorP5
namespace Go.Proofs.YtiflfnlpkhghpaaDoor
open Go Go.Ip Go.RowKit G

variable (g : Nat → PV) (lf n : Nat)

def swapI (x : Int) : Int := if x = 1 then 2 else if x = 2 then 1 else x
/-- Where the mirrored position's cell k comes from: of a board of R rows and C columns. -/
def sig (R C k : Nat) : Nat := k % R * C + k / R
def mir (R C : Nat) (xs : List Int) : List Int := (List.range xs.length).map fun k => swapI (xs.getD (sig R C k) 0)
def mirL (r c : Int) (xs : List Int) : List Int := if posB r c xs = true then mir r.toNat c.toNat xs else []

theorem mirL_length (r c : Int) (xs : List Int) : (mirL r c xs).length ≤ xs.length := by
  unfold mirL mir; split <;> simp

theorem sig_small : ∀ R : Fin 5, ∀ C : Fin 5, ∀ k : Fin 10, 1 ≤ R.1 → 1 ≤ C.1 → k.1 < R.1 * C.1 → sig R.1 C.1 k.1 < R.1 * C.1 ∧ sig C.1 R.1 (sig R.1 C.1 k.1) = k.1 := by decide

/-- A board's sides, as numbers. -/
def Sides (r c : Int) (R C : Nat) (xs : List Int) : Prop := r = (R : Int) ∧ c = (C : Int) ∧ 1 ≤ R ∧ R ≤ 4 ∧ 1 ≤ C ∧ C ≤ 4 ∧ R * C ≤ 9 ∧ xs.length = R * C ∧ xs.all contentB = true

theorem sides_of {r c : Int} {xs : List Int} (h : posB r c xs = true) : ∃ R C, Sides r c R C xs := by
  unfold posB at h
  rw [Bool.and_eq_true, Bool.and_eq_true] at h
  have hb := h.1.1
  unfold boardB at hb
  have hm := of_decide_eq_true hb
  have hl := of_decide_eq_true h.1.2
  obtain ⟨R, rfl⟩ := Int.eq_ofNat_of_zero_le (show 0 ≤ r by omega)
  obtain ⟨C, rfl⟩ := Int.eq_ofNat_of_zero_le (show 0 ≤ c by omega)
  have h9 := hm.2.2.2.2
  rw [← Int.natCast_mul] at h9 hl
  exact ⟨R, C, rfl, rfl, by omega, by omega, by omega, by omega, by omega, by omega, h.2⟩

theorem sig_lt {R C k : Nat} (h1 : 1 ≤ R) (h2 : R ≤ 4) (h3 : 1 ≤ C) (h4 : C ≤ 4) (h9 : R * C ≤ 9) (hk : k < R * C) : sig R C k < R * C ∧ sig C R (sig R C k) = k :=
  sig_small ⟨R, by omega⟩ ⟨C, by omega⟩ ⟨k, by omega⟩ h1 h3 hk

theorem f_rem (i R : Nat) (hR : 1 ≤ R) : binP Tryd.prog .rem 3 (.int .i64 (i : Int)) (.int .i64 (R : Int)) = some (.int .i64 ((i % R : Nat) : Int)) := by
  rw [bin_rem (show (R : Int) ≠ 0 by omega)]; rfl
theorem f_quo (i R : Nat) (hR : 1 ≤ R) (hi : i ≤ 1000) : binP Tryd.prog .quo 3 (.int .i64 (i : Int)) (.int .i64 (R : Int)) = some (.int .i64 ((i / R : Nat) : Int)) := by
  rw [bin_quo (show (R : Int) ≠ 0 by omega), show ((i : Int).tdiv (R : Int)) = ((i / R : Nat) : Int) from rfl]
  have := Nat.div_le_self i R
  obtain ⟨q, hq⟩ : ∃ q, q = i / R := ⟨_, rfl⟩
  rw [← hq] at this ⊢
  rw [wr (by omega)]
theorem f_mul (a b : Nat) (h : a * b ≤ 1000) : binP Tryd.prog .mul 3 (.int .i64 (a : Int)) (.int .i64 (b : Int)) = some (.int .i64 ((a * b : Nat) : Int)) := by
  rw [bin_mul, ← Int.natCast_mul, wr (by omega)]
theorem f_add (a b : Nat) (h : a + b ≤ 1000) : binP Tryd.prog .add 3 (.int .i64 (a : Int)) (.int .i64 (b : Int)) = some (.int .i64 ((a + b : Nat) : Int)) := by
  rw [bin_add, ← Int.natCast_add, wr (by omega)]

theorem mirroredCell_N (N : Nat) (hN : 1 ≤ N) (h : PHeap) {R C i : Nat} (h1 : 1 ≤ R) (h2 : R ≤ 4) (h3 : 1 ≤ C) (h4 : C ≤ 4) (h9 : R * C ≤ 9) (hi : i < R * C) :
    CL g lf N fn_impl_mirroredCell [.int .i64 (R : Int), .int .i64 (C : Int), .int .i64 (i : Int)] h = some (.int .i64 ((sig C R i : Nat) : Int), h) := by
  obtain ⟨n, rfl⟩ : ∃ n, N = n + 1 := ⟨N - 1, by omega⟩
  rw [impl_mirroredCell.call_eq]
  have hs := (sig_lt h3 h4 h1 h2 (by rw [Nat.mul_comm]; exact h9) (by rw [Nat.mul_comm]; exact hi) : sig C R i < C * R ∧ _).1
  rw [Nat.mul_comm C R] at hs
  unfold sig at hs ⊢
  have hle := Nat.le_add_right (i % C * R) (i / C)
  unfold impl_mirroredCell.main
  exact bd (f_rem i C h3) (bd (f_mul _ _ (by omega)) (bd (f_quo i C h3 (by omega)) (bd (f_add _ _ (by omega)) (bd res_int rfl))))

theorem exchanged_N (N : Nat) (hN : 1 ≤ N) (h : PHeap) (x : Int) : CL g lf N fn_impl_exchanged [.int .i64 x] h = some (.int .i64 (swapI x), h) := by
  obtain ⟨n, rfl⟩ : ∃ n, N = n + 1 := ⟨N - 1, by omega⟩
  rw [impl_exchanged.call_eq]
  by_cases h1 : x = 1
  · subst h1; simp [impl_exchanged.main, swapI]
  · by_cases h2 : x = 2
    · subst h2; simp [impl_exchanged.main, swapI]
    · have b1 : (x == 1) = false := by simp [h1]
      have b2 : (x == 2) = false := by simp [h2]
      simp [impl_exchanged.main, swapI, b1, b2, h1, h2]

theorem mirI_loop {xs : List Int} {p : PV} {r c : Int} {R C : Nat} (hs : Sides r c R C xs) (hn : 1 ≤ n) : ∀ (m i fuel : Nat) (q : PV) (ys : List Int) (h : PHeap) (b : Nat), i + m = xs.length → m < fuel → ys.length = xs.length →
    OwnSl b h q ys → b ≤ h.length → (∀ h', Keep b h h' → IntSl .i64 h' p xs) →
    ∃ h' zs, loopK (ev ((env g lf n).cx Tryd.prog impl_Mirrored.kl) impl_Mirrored.lp0) fuel (impl_Mirrored.st0 (.int .i64 (R : Int)) (.int .i64 (C : Int)) q p (.int .i64 (xs.length : Int)) (.int .i64 (i : Int)) h) (impl_Mirrored.K0 (env g lf n) (kTop Tryd.prog Tryd.f21)) = some (q, h') ∧
      OwnSl b h' q zs ∧ zs.length = xs.length ∧ (∀ j : Nat, j < xs.length → zs[sig C R j]? = if i ≤ j then (xs[j]?).map swapI else ys[sig C R j]?) ∧ Keep b h h'
  | 0, i, fuel, q, ys, h, b, him, hf, hy, ho, hb, hp => by
    obtain ⟨f, rfl⟩ : ∃ f, fuel = f + 1 := ⟨fuel - 1, by omega⟩
    refine ⟨h, ys, ?_, ho, hy, fun j hj => by rw [if_neg (by omega)], Keep.refl _ _⟩
    rw [loopK_succ, impl_Mirrored.body0_eq]
    have f1 : binP Tryd.prog .lss 3 (.int .i64 (i : Int)) (.int .i64 (xs.length : Int)) = some (.bool false) := by rw [bin_lss, decide_eq_false (by omega)]
    unfold impl_Mirrored.body0
    refine bd f1 (cdF ?_)
    show impl_Mirrored.K0 (env g lf n) _ (.exit 0) _ = _
    rw [impl_Mirrored.after0_se0_0_1_7_18_19_20_21]
    exact bd ho.res rfl
  | m + 1, i, fuel, q, ys, h, b, him, hf, hy, ho, hb, hp => by
    obtain ⟨f, rfl⟩ : ∃ f, fuel = f + 1 := ⟨fuel - 1, by omega⟩
    obtain ⟨hr, hc, h1, h2, h3, h4, h9, hlen, hall⟩ := id hs
    have hi : i < xs.length := by omega
    have hp0 := hp h (Keep.refl _ _)
    obtain ⟨a, ha, hla⟩ := hp0.at' hi
    have hsig : ∀ j, j < xs.length → sig C R j < xs.length ∧ sig R C (sig C R j) = j := fun j hj => by
      have := sig_lt (k := j) h3 h4 h1 h2 (by rw [Nat.mul_comm]; exact h9) (by rw [Nat.mul_comm C R]; omega)
      rw [Nat.mul_comm C R, ← hlen] at this
      exact this
    obtain ⟨a2, h2', ha2, hs2, ho2, hk2, hlen2⟩ := ho.store (show sig C R i < ys.length by have := (hsig i hi).1; omega) (swapI xs[i])
    obtain ⟨h', zs, hr', ho', hz, hzz, hk'⟩ := mirI_loop hs hn m (i + 1) f q (ys.set (sig C R i) (swapI xs[i])) h2' b (by omega) (by omega) (by simpa using hy) ho2 (by omega) (fun h3 hk3 => hp h3 (hk2.trans hk3))
    refine ⟨h', zs, ?_, ho', hz, ?_, hk2.trans hk'⟩
    · rw [loopK_succ, impl_Mirrored.body0_eq]
      have f1 : binP Tryd.prog .lss 3 (.int .i64 (i : Int)) (.int .i64 (xs.length : Int)) = some (.bool true) := by rw [bin_lss, decide_eq_true (by omega)]
      have f3 : binP Tryd.prog .add 3 (.int .i64 (i : Int)) (.int .i64 1) = some (.int .i64 ((i + 1 : Nat) : Int)) := by rw [bin_add, nx (by omega)]
      have e1 := mirroredCell_N g lf n hn h h1 h2 h3 h4 h9 (show i < R * C by omega)
      have e2 := exchanged_N g lf n hn h xs[i]
      unfold impl_Mirrored.body0
      refine bd f1 (cdT ?_)
      exact bd ha (bd hla (bd e1 (bd e2 (bd ha2 (bd hs2 (bd f3 hr'))))))
    · intro j hj
      rw [hzz j hj]
      by_cases c1 : i + 1 ≤ j
      · rw [if_pos c1, if_pos (by omega)]
      · rw [if_neg c1]
        by_cases c2 : i = j
        · subst c2
          rw [if_pos (Nat.le_refl _), List.getElem?_set_self (by have := (hsig i hi).1; omega), List.getElem?_eq_getElem hi]; rfl
        · have hne : sig C R i ≠ sig C R j := fun e => c2 (by rw [← (hsig i hi).2, ← (hsig j hj).2, e])
          rw [if_neg (by omega), List.getElem?_set_ne hne]

theorem mirrored_calls {xs : List Int} {p : PV} {h : PHeap} (N : Nat) (hN : 4 ≤ N) (r c : Int) (hp : IntSl .i64 h p xs) (hl : xs.length ≤ 2 ^ 35) (hf : xs.length < lf) :
    ∃ q h', CL g lf N fn_impl_Mirrored [.int .i64 r, .int .i64 c, p] h = some (q, h') ∧ OwnSl h.length h' q (mirL r c xs) ∧ Keep h.length h h' := by
  obtain ⟨n, rfl⟩ : ∃ n, N = n + 1 := ⟨N - 1, by omega⟩
  rw [impl_Mirrored.call_eq]
  have hpos := positionOk_N g lf n (by omega) r c hp (by omega) hf
  unfold mirL
  cases hb : posB r c xs with
  | false => exact ⟨.nilsl, h, by simp [impl_Mirrored.main, hpos, hb], OwnSl.nil _ _, Keep.refl _ _⟩
  | true =>
    rw [hb] at hpos
    obtain ⟨R, C, hs⟩ := sides_of hb
    obtain ⟨rfl, rfl, h1, h2, h3, h4, h9, hlen, hall⟩ := id hs
    obtain ⟨q, ha, hm, ho, hk⟩ := made (h := h) (m := xs.length) (by omega)
    obtain ⟨h', zs, hr, ho', hz, hzz, hk'⟩ := mirI_loop g lf n hs (by omega) xs.length 0 lf q (List.replicate xs.length 0) ha h.length (by omega) hf (by simp) ho hk.1 (fun h' hk' => hp.keep (hk.trans hk'))
    refine ⟨q, h', ?_, ?_, hk.trans hk'⟩
    · unfold impl_Mirrored.main
      refine bd hpos (bd un_not (cdF ?_))
      exact bd hp.len' (bd hm (bd hp.len' hr))
    · rw [if_pos rfl]
      have : zs = mir ((R : Int).toNat) ((C : Int).toNat) xs := by
        show zs = mir R C xs
        apply List.ext_getElem?
        intro k
        by_cases hk : k < xs.length
        · have hsk := sig_lt (k := k) h1 h2 h3 h4 h9 (by omega)
          have hj : sig R C k < xs.length := by omega
          have := hzz (sig R C k) hj
          rw [if_pos (Nat.zero_le _), hsk.2, List.getElem?_eq_getElem hj] at this
          rw [this]
          unfold mir
          rw [List.getElem?_map, List.getElem?_range hk, Option.map_some, Option.map_some, List.getD_eq_getElem?_getD, List.getElem?_eq_getElem hj]; rfl
        · rw [List.getElem?_eq_none (by omega), List.getElem?_eq_none (by unfold mir; simp; omega)]
      rw [← this]; exact ho'

end Go.Proofs.YtiflfnlpkhghpaaDoor
