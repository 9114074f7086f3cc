/- Promise 5: turned by half a turn twice it is as before. -/
import Derived.Test.YtiflfnlpkhghpaaDoorP3
namespace Go.Proofs.YtiflfnlpkhghpaaDoor
open Go Go.Ip Go.RowKit G

variable (g : Nat → PV) (lf n : Nat)

/-! ### sameInts: are two lists equal? -/
theorem sameInts_loop {xs ys : List Int} {p q : PV} {h : PHeap} (hp : IntSl .i64 h p xs) (hq : IntSl .i64 h q ys) (hxy : xs.length = ys.length) (hl : xs.length ≤ 2 ^ 36) : ∀ (m i fuel : Nat), i + m = xs.length → m < fuel →
    loopK (ev ((env g lf n).cx Tryd.prog laws_sameInts.kl) laws_sameInts.lp0) fuel (laws_sameInts.st0 p q (.int .i64 i) h) (laws_sameInts.K0 (env g lf n) (kTop Tryd.prog Tryd.f24)) = some (.bool (decide (xs.drop i = ys.drop i)), h)
  | 0, i, fuel, him, hf => by
    obtain ⟨f, rfl⟩ : ∃ f, fuel = f + 1 := ⟨fuel - 1, by omega⟩
    rw [loopK_succ, laws_sameInts.body0_eq]
    have hlt : ¬ ((i : Int) < (xs.length : Int)) := by omega
    have hd : xs.drop i = ys.drop i := by rw [List.drop_eq_nil_of_le (by omega), List.drop_eq_nil_of_le (by omega)]
    simp [laws_sameInts.body0, hp.len', hlt, laws_sameInts.after0_se0_0_1_5_14, hd]
  | m + 1, i, fuel, him, hf => by
    obtain ⟨f, rfl⟩ : ∃ f, fuel = f + 1 := ⟨fuel - 1, by omega⟩
    have hi : i < xs.length := by omega
    have hi' : i < ys.length := by omega
    obtain ⟨a, ha, hla⟩ := hp.at' hi
    obtain ⟨b, hb, hlb⟩ := hq.at' hi'
    have ih := sameInts_loop hp hq hxy hl m (i + 1) f (by omega) (by omega)
    have hlt : (i : Int) < (xs.length : Int) := by omega
    rw [loopK_succ, laws_sameInts.body0_eq]
    have hdx : xs.drop i = xs[i] :: xs.drop (i + 1) := List.drop_eq_getElem_cons hi
    have hdy : ys.drop i = ys[i] :: ys.drop (i + 1) := List.drop_eq_getElem_cons hi'
    by_cases he : xs[i] = ys[i]
    · have hne : (xs[i] != ys[i]) = false := by simp [he]
      simp only [laws_sameInts.body0, env_len, env_bin, env_indexAddr, env_load, hp.len', bin_lss, hlt, decide_true, Option.bind_some, cond_bool, cond_true, ha, hla, hb, hlb, bin_neq, hne, cond_false, bin_add, nx (show i < 2 ^ 40 by omega), kLoop_normal, ih]
      rw [hdx, hdy, he]
      simp only [List.cons.injEq, true_and]
    · have hne : (xs[i] != ys[i]) = true := by simp [he]
      simp only [laws_sameInts.body0, env_len, env_bin, env_indexAddr, env_load, hp.len', bin_lss, hlt, decide_true, Option.bind_some, cond_bool, cond_true, ha, hla, hb, hlb, bin_neq, hne, kLoop_ret, laws_sameInts.K0_ret, laws_sameInts.top_sr_4, res_bool, Option.bind_some]
      rw [hdx, hdy]
      simp only [List.cons.injEq, he, false_and, decide_false]

theorem sameInts_N {xs ys : List Int} {p q : PV} {h : PHeap} (N : Nat) (hN : 1 ≤ N) (hp : IntSl .i64 h p xs) (hq : IntSl .i64 h q ys) (hl : xs.length ≤ 2 ^ 36) (hf : xs.length < lf) :
    CL g lf N fn_laws_sameInts [p, q] h = some (.bool (decide (xs = ys)), h) := by
  obtain ⟨n, rfl⟩ : ∃ n, N = n + 1 := ⟨N - 1, by omega⟩
  rw [laws_sameInts.call_eq]
  by_cases hxy : xs.length = ys.length
  · have := sameInts_loop g lf n hp hq hxy hl xs.length 0 lf (by omega) hf
    simp only [laws_sameInts.main, env_len, env_bin, env_lf, hp.len', hq.len', Option.bind_some, bin_neq, hxy, bne_self_eq_false, cond_bool, cond_false]
    simpa using this
  · have hne : ((xs.length : Int) != (ys.length : Int)) = true := by simp; omega
    have hd : ¬ xs = ys := fun e => hxy (by rw [e])
    simp [laws_sameInts.main, hp.len', hq.len', hne, hd]

theorem cellsFrom_count (x : Int) : ∀ (ys : List Int) (i : Nat), (cellsFrom x i ys).length = ys.count x
  | [], _ => rfl
  | y :: ys, i => by
    have := cellsFrom_count x ys (i + 1)
    rw [cellsFrom, List.count_cons]
    by_cases h : y = x
    · rw [if_pos h, List.length_cons, this, if_pos (by simp [h])]
    · rw [if_neg h, this, if_neg (by simp [h])]; rfl

theorem posB_reverse (r c : Int) (xs : List Int) : posB r c xs.reverse = posB r c xs := by
  unfold posB
  rw [List.length_reverse, List.all_reverse]

theorem turn_turn {r c : Int} {xs : List Int} (h : posB r c xs = true) : turnL r c xs.reverse = xs := by
  unfold turnL
  rw [posB_reverse, if_pos h, List.reverse_reverse]

theorem cells_turn (r c x : Int) (xs : List Int) : (cellsL r c xs.reverse x).length = (cellsL r c xs x).length := by
  unfold cellsL
  rw [posB_reverse]
  split
  · rw [cellsFrom_count, cellsFrom_count, List.count_reverse]
  · rfl

theorem posB_some {r c : Int} {xs : List Int} (h : posB r c xs = true) : xs.length ≠ 0 := by
  unfold posB at h
  rw [Bool.and_eq_true, Bool.and_eq_true] at h
  have hb := h.1.1
  unfold boardB at hb
  have hm := of_decide_eq_true hb
  have hl := of_decide_eq_true h.1.2
  have : 0 < r * c := Int.mul_pos (by omega) (by omega)
  omega

end Go.Proofs.YtiflfnlpkhghpaaDoor
