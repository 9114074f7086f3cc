/- Texts of this seat, in their order, put together by program. -/
import Derived.Test.YtlefknibddkjpaaDoorK8
set_option linter.unusedSimpArgs false
set_option linter.unusedVariables false
set_option linter.unusedSectionVars false
/- The exact laws of chapter 7 over what the program's functions are asked to compute. -/
set_option maxRecDepth 20000
namespace Go.Proofs.YtlefknibddkjpaaDoor
open Go Go.Ip G

/-- What is asked of the program's functions of chapter 7. -/
def TriangleOkOk7 (g : Nat → PV) (lf : Nat) : Prop := ∀ (N : Nat), 40 ≤ N → ∀ (side : Int) {xs : List Int} {p : PV} {h : PHeap}, TabOk g h → IntSl .i64 h p xs → xs.length ≤ 2 ^ 35 → xs.length < lf →
  ∃ h', CL g lf N fn_impl_TriangleOk [.int .i64 side, p] h = some (.bool (triB side xs), h') ∧ Keep h.length h h'
def JoinsAllOk7 (g : Nat → PV) (lf : Nat) : Prop := ∀ (N : Nat), 40 ≤ N → ∀ (side pl : Int) {xs : List Int} {p : PV} {h : PHeap}, TabOk g h → IntSl .i64 h p xs → xs.length ≤ 2 ^ 35 → xs.length < lf →
  ∃ h', CL g lf N fn_impl_JoinsAll [.int .i64 side, p, .int .i64 pl] h = some (.bool (joinsAllL side xs pl), h') ∧ Keep h.length h h'
def LastCellOk7 (g : Nat → PV) (lf : Nat) : Prop := ∀ (N : Nat), 40 ≤ N → ∀ (side : Int) {xs : List Int} {p : PV} {h : PHeap}, TabOk g h → IntSl .i64 h p xs → xs.length ≤ 2 ^ 35 → xs.length < lf →
  ∃ h', CL g lf N fn_impl_LastCell [.int .i64 side, p] h = some (.int .i64 (lastL side xs), h') ∧ Keep h.length h h'
def ShrunkOk7 (g : Nat → PV) (lf : Nat) : Prop := ∀ (N : Nat), 40 ≤ N → ∀ (side : Int) {xs : List Int} {p : PV} {h : PHeap}, TabOk g h → IntSl .i64 h p xs → xs.length ≤ 2 ^ 35 → xs.length < lf →
  ∃ q h', CL g lf N fn_impl_Shrunk [.int .i64 side, p] h = some (q, h') ∧ OwnSl h.length h' q (shrunkL side xs) ∧ Keep h.length h h'
def TurnedTriangleOk7 (g : Nat → PV) (lf : Nat) : Prop := ∀ (N : Nat), 40 ≤ N → ∀ (side : Int) {xs : List Int} {p : PV} {h : PHeap}, TabOk g h → IntSl .i64 h p xs → xs.length ≤ 2 ^ 35 → xs.length < lf →
  ∃ q h', CL g lf N fn_impl_TurnedTriangle [.int .i64 side, p] h = some (q, h') ∧ OwnSl h.length h' q (turnedL side xs) ∧ Keep h.length h h'
def TriangleNearOk7 (g : Nat → PV) (lf : Nat) : Prop := ∀ (N : Nat), 40 ≤ N → ∀ (side k : Int) {h : PHeap}, TabOk g h →
  ∃ q h', CL g lf N fn_impl_TriangleNear [.int .i64 side, .int .i64 k] h = some (q, h') ∧ OwnSl h.length h' q (nearTL side k) ∧ Keep h.length h h'
def TriangleWinsOk7 (g : Nat → PV) (lf : Nat) : Prop := ∀ (N : Nat), 40 ≤ N → ∀ (side f : Int) {h : PHeap}, TabOk g h →
  ∃ h', CL g lf N fn_impl_TriangleWins [.int .i64 side, .int .i64 f] h = some (.int .i64 (winsL side f), h') ∧ Keep h.length h h'

theorem listT_len (S : Nat) : (listT S).length ≤ 10 := by
  rw [listT_length]; unfold popT
  have := List.countP_le_length (p := fun j => S.testBit j) (l := List.range 10)
  rwa [List.length_range] at this
theorem nearTL_length (side k : Int) : (nearTL side k).length ≤ 10 := by
  unfold nearTL; split
  · exact listT_len _
  · exact Nat.zero_le _
theorem shrunkL_length (side : Int) (xs : List Int) : (shrunkL side xs).length ≤ 10 := by
  unfold shrunkL; split
  · rename_i h
    rw [Bool.and_eq_true] at h
    obtain ⟨s, A, hT⟩ := tri_of h.1
    obtain ⟨rfl, _, s4, _⟩ := id hT
    rw [fillT_length, Int.toNat_natCast]; exact cellsT_le (by omega)
  · exact Nat.zero_le _
theorem turnedL_length (side : Int) (xs : List Int) : (turnedL side xs).length ≤ 10 := by
  unfold turnedL; split
  · rename_i h
    obtain ⟨s, A, hT⟩ := tri_of h
    obtain ⟨rfl, _, s4, _⟩ := id hT
    rw [fillT_length, Int.toNat_natCast]; exact cellsT_le s4
  · exact Nat.zero_le _

variable (g : Nat → PV) (lf n : Nat)

theorem exactJoinsAll_calls (hok : JoinsAllOk7 g lf) {xs : List Int} {p : PV} {h : PHeap} (N : Nat) (hN : 41 ≤ N) (side pl : Int) (ht : TabOk g h) (hp : IntSl .i64 h p xs) (hf : 1048576 < lf) :
    ∃ h', CL g lf N fn_laws_FnExactJoinsAll [.int .i64 side, p, .int .i64 pl] h = some (.bool true, h') := by
  obtain ⟨n, rfl⟩ : ∃ n, N = n + 1 := ⟨N - 1, by omega⟩
  apply W.yes
  rw [laws_FnExactJoinsAll.call_eq]
  unfold laws_FnExactJoinsAll.main
  simp only [env_C, env_bin, env_un, env_len]
  have hlen := hp.len'
  by_cases hbig : (1048576 : Int) < (xs.length : Int)
  · repeat (first | with_reducible refine wT ?_ | with_reducible refine wrB ?_ | with_reducible refine wbd (by assumption) ?_ | with_reducible refine wgtrT (by omega) ?_)
    exact W.ret rfl
  · obtain ⟨q1, h1, e1, o1, k1⟩ := toIntS_calls g lf n (by omega) hp (by omega) (by omega)
    obtain ⟨h2, e2, k2⟩ := specJoinsAll_calls g lf n (by omega) side pl o1.int (by omega) (by omega) (by omega)
    have K2 : Keep h.length h h2 := k1.trans (k2.mono k1.1)
    obtain ⟨q3, h3, e3, o3, k3⟩ := toIntS_calls g lf n (by omega) (hp.keep K2) (by omega) (by omega)
    have K3 : Keep h.length h h3 := K2.trans (k3.mono K2.1)
    obtain ⟨h4, e4, k4⟩ := hok n (by omega) side pl (ht.keep K3) o3.int (by omega) (by omega)
    have K4 : Keep h.length h h4 := K3.trans (k4.mono K3.1)
    obtain ⟨q5, h5, e5, o5, k5⟩ := toIntS_calls g lf n (by omega) (hp.keep K4) (by omega) (by omega)
    have e6 := eqIntS_N g lf n (by omega) ((o3.keep k4).keep k5).int o5.int (by omega) (by omega)
    rw [decide_eq_true rfl] at e6
    repeat (first | with_reducible refine wF ?_ | with_reducible refine wnT ?_ | with_reducible refine wrB ?_ | with_reducible refine wbd (by assumption) ?_ | (with_reducible refine wneqBB ?_) | with_reducible refine wgtrF (by omega) ?_ | dsimp only)
    exact W.ret rfl

theorem exactTriangleNear_calls (hok : TriangleNearOk7 g lf) {h : PHeap} (N : Nat) (hN : 41 ≤ N) (side k : Int) (ht : TabOk g h) (hf : 1048576 < lf) :
    ∃ h', CL g lf N fn_laws_FnExactTriangleNear [.int .i64 side, .int .i64 k] h = some (.bool true, h') := by
  obtain ⟨n, rfl⟩ : ∃ n, N = n + 1 := ⟨N - 1, by omega⟩
  apply W.yes
  have hL := nearTL_length side k
  obtain ⟨w, h2, g0, h4, h7, g1, h9, e2, e4, s4, e7, s7, e9, s9, s10⟩ := exact_chain4 g lf n (by omega)
    (fun h => CL g lf n fn_spec_TriangleNear [.int .i64 side, .int .i64 k] h) (fun h => CL g lf n fn_impl_TriangleNear [.int .i64 side, .int .i64 k] h)
    (fun hh _ => specTriangleNear_calls g lf n (by omega) (by omega) hh side k) (fun hh hk => hok n (by omega) side k (ht.keep hk)) (by omega) hf
  rw [laws_FnExactTriangleNear.call_eq]
  unfold laws_FnExactTriangleNear.main
  simp only [env_C, env_bin, env_un]
  repeat (first | with_reducible refine wF ?_ | with_reducible refine wnT ?_ | with_reducible refine wrB ?_ | with_reducible refine wbd (by assumption) ?_ | with_reducible refine wlssF (by omega) ?_ | with_reducible refine wneqF (by omega) ?_ | dsimp only)
  exact W.ret rfl

end Go.Proofs.YtlefknibddkjpaaDoor

/- The laws of chapter 7 over what the program's functions are asked to compute: fillings that are turned, shrunk and joined. -/
set_option maxRecDepth 20000
namespace Go.Proofs.YtlefknibddkjpaaDoor
open Go Go.Ip G

section
variable {Q : PV → PHeap → Prop} {h : PHeap}
theorem wneqBN {a b : Bool} {f : PV → Res} (hn : a ≠ b) (hf : W (f (.bool true)) Q) : W ((binP Tryd.prog .neq 4 (.bool a) (.bool b)).bind f) Q := wbd (by rw [neqB]; cases a <;> cases b <;> simp_all) hf
theorem wsubN {x y : Nat} {t : Nat} {P : Program} {f : PV → Res} (hy : y ≤ x) (hx : x < 4611686018427387904) (hf : W (f (.int .i64 ((x - y : Nat) : Int))) Q) : W ((binP P .sub t (.int .i64 (x : Int)) (.int .i64 (y : Int))).bind f) Q :=
  wsub (by omega) (by rw [show (x : Int) - (y : Int) = ((x - y : Nat) : Int) by omega]; exact hf)
end

theorem take_map {xs : List Int} {f : Int → Int} {i : Nat} (hi : i < xs.length) : (xs.take (i + 1)).map f = (xs.take i).map f ++ [f xs[i]] := by
  rw [List.take_add_one, List.getElem?_eq_getElem hi, List.map_append]; rfl
theorem fill_map {s A : Nat} (hA : A < 2 ^ cellsT s) : (fillT (cellsT s) A).map (fun x => 3 - x) = fillT (cellsT s) (otherT s A) := by
  rw [← fill_other hA]
  apply List.map_congr_left
  intro x _; omega

section
variable {side : Int} {xs : List Int} {s A : Nat} (h : Tri side xs s A)
include h
theorem tri_set {k : Nat} {v : Int} (hk : k < xs.length) (hv : v = 1 ∨ v = 2) : ∃ A', Tri side (xs.set k v) s A' ∧ (v = 1 → A' = A ||| (1 <<< k)) := by
  have ok := h.ok
  obtain ⟨e, h1, h2, h3, h4, h5, h6, h7⟩ := h
  have ok' : triB side (xs.set k v) = true := by
    unfold triB at ok ⊢
    simp only [Bool.and_eq_true, decide_eq_true_eq, List.all_eq_true] at ok ⊢
    refine ⟨fun x hx => ?_, ok.2.1, by rw [List.length_set]; exact ok.2.2⟩
    rcases List.mem_or_eq_of_mem_set hx with e | e
    · exact ok.1 x e
    · rw [e]; omega
  obtain ⟨s', A', hT⟩ := tri_of ok'
  have hs : s' = s := by have := hT.1; omega
  subst hs
  refine ⟨A', hT, fun e => ?_⟩
  obtain ⟨_, _, _, _, _, _, h6', _⟩ := hT
  rw [← h6', ← h6, e]
  apply Nat.eq_of_testBit_eq
  intro j
  rw [Bool.eq_iff_iff, setL_bit, Nat.testBit_or, Bool.or_eq_true, setL_bit, Nat.one_shiftLeft, Nat.testBit_two_pow, decide_eq_true_eq, List.getElem?_set]
  by_cases hj : k = j
  · subst hj; simp [hk]
  · rw [if_neg hj]; simp [hj]
theorem tri_len : xs.length = cellsT s ∧ 0 < xs.length ∧ xs.length ≤ 10 := by
  obtain ⟨_, h1, h2, _, _, h5, _⟩ := h
  rw [h5]
  have : s = 1 ∨ s = 2 ∨ s = 3 ∨ s = 4 := by omega
  rcases this with rfl | rfl | rfl | rfl <;> decide
theorem more_set {k : Nat} (hk : k < xs.length) (hl : lastT s A = true) : joinsAllL side (xs.set k 1) 1 = true := by
  obtain ⟨A', hT, e⟩ := tri_set h hk (.inl rfl)
  have := tri_joins hT (P := 1) (.inl rfl)
  rw [if_pos rfl, e rfl, more_last h (by rw [← (tri_len h).1]; exact hk) hl] at this
  exact this
theorem last_set {k : Nat} (hk : k < xs.length) (hne : xs[k] ≠ lastL side xs) : lastL side (xs.set k (lastL side xs)) = lastL side xs := by
  have hkc : k < cellsT s := by rw [← (tri_len h).1]; exact hk
  have hall : 1 ≤ xs[k] ∧ xs[k] ≤ 2 := by
    have ok := h.ok
    unfold triB at ok
    simp only [Bool.and_eq_true, decide_eq_true_eq, List.all_eq_true] at ok
    exact ok.1 _ (List.getElem_mem hk)
  rw [tri_last h] at hne ⊢
  cases hl : lastT s A with
  | true =>
    obtain ⟨A', hT, e⟩ := tri_set h hk (v := 1) (.inl rfl)
    rw [if_pos rfl, tri_last hT, e rfl, more_last h hkc hl]; rfl
  | false =>
    rw [hl] at hne
    have h1 : xs[k] = 1 := by
      have : xs[k] ≠ 2 := hne
      omega
    obtain ⟨A', hT, _⟩ := tri_set h hk (v := 2) (.inr rfl)
    show lastL side (xs.set k 2) = 2
    rw [tri_last hT]
    cases hl2 : lastT s A' with
    | false => rfl
    | true =>
      obtain ⟨A3, hT3, e3⟩ := tri_set hT (k := k) (v := 1) (by rw [List.length_set]; exact hk) (.inl rfl)
      have hm := more_last hT hkc hl2
      rw [← e3 rfl] at hm
      rw [List.set_set, ← h1, List.set_getElem_self] at hT3
      have : A3 = A := by
        obtain ⟨_, _, _, _, _, _, a, _⟩ := hT3
        obtain ⟨_, _, _, _, _, _, b, _⟩ := h
        rw [← a, b]
      rw [this, hl] at hm; cases hm
end
theorem last_zero {side : Int} {xs : List Int} : lastL side xs = 0 ↔ triB side xs = false := by
  unfold lastL
  cases triB side xs with
  | false => simp
  | true => cases lastT side.toNat (setL xs 1) <;> simp
theorem shrunk_nil {side : Int} {xs : List Int} (h : triB side xs = false ∨ side = 1) : shrunkL side xs = [] := by
  unfold shrunkL
  rcases h with h | rfl
  · rw [h]; rfl
  · rw [Bool.and_comm]; rfl
theorem joinsAll_nil {side : Int} {xs : List Int} {pl : Int} (h : triB side xs = false ∨ 2 < pl) : joinsAllL side xs pl = false := by
  unfold joinsAllL
  rcases h with h | h
  · rw [h]; rfl
  · rw [playerB_none h, Bool.and_false]; rfl

variable (g : Nat → PV) (lf n : Nat)

theorem fnJoinsAll_calls (hJ : JoinsAllOk7 g lf) (hTu : TurnedTriangleOk7 g lf) {p : PV} {ys : List Int} {h : PHeap} (N : Nat) (hN : 45 ≤ N) (ha : Arg h p ys) (hlf : 3000 < lf) (ht : TabOk g h) :
    ∃ h', CL g lf N fn_laws_FnJoinsAll [p] h = some (.bool true, h') := by
  obtain ⟨n, rfl⟩ : ∃ n, N = n + 1 := ⟨N - 1, by omega⟩
  apply W.yes
  rw [laws_FnJoinsAll.call_eq]
  unfold laws_FnJoinsAll.main
  simp only [env_C, env_pick, env_bin, env_un, env_extract, env_len]
  have hlenp : lenP Tryd.prog 22 p = some (.int .i64 ys.length) := (ha.1 h (Keep.refl _ _)).len tyB
  by_cases hbig : (1048576 : Int) < (ys.length : Int)
  · repeat (first | with_reducible refine wT ?_ | with_reducible refine wrB ?_ | with_reducible refine wbd (by assumption) ?_ | with_reducible refine wgtrT (by omega) ?_)
    exact W.ret rfl
  obtain ⟨sd, q, xs, pl, h1, e1, k1, hq0, hl, hbd, hs1, hs5, hp1, hp4⟩ := drawJoinsAll_W g lf n (by omega) ha (by omega)
  have htF := tabF ht k1
  have hb1 : h1.length ≤ h1.length := Nat.le_refl _
  have k0 : Keep h1.length h1 h1 := Keep.refl _ _
  have hal : ∀ h2, CL g lf n fn_laws_alive [] h2 = some (.bool true, h2) := fun h2 => alive_calls g lf n (by omega) h2
  have hq : Fix h1.length h1 q xs := hq0.fix
  have hJA : ∀ h2 (q' : PV) (zs : List Int) (sd' pl' : Int), Keep h1.length h1 h2 → IntSl .i64 h2 q' zs → zs.length ≤ 11 → ∃ h', CL g lf n fn_impl_JoinsAll [.int .i64 sd', q', .int .i64 pl'] h2 = some (.bool (joinsAllL sd' zs pl'), h') ∧ Keep h2.length h2 h' := fun h2 q' zs sd' pl' k2 i2 l2 => hJ n (by omega) sd' pl' (htF _ k2) i2 (by omega) (by omega)
  have hTU : ∀ h2 (q' : PV) (zs : List Int) (sd' : Int), Keep h1.length h1 h2 → IntSl .i64 h2 q' zs → zs.length ≤ 11 → ∃ q'' h', CL g lf n fn_impl_TurnedTriangle [.int .i64 sd', q'] h2 = some (q'', h') ∧ OwnSl h2.length h' q'' (turnedL sd' zs) ∧ Keep h2.length h2 h' := fun h2 q' zs sd' k2 i2 l2 => hTu n (by omega) sd' (htF _ k2) i2 (by omega) (by omega)
  obtain ⟨h2, e2, k2⟩ := hJA h1 q xs sd pl k0 (hq _ k0) (by omega)
  obtain ⟨h3, e3, k3⟩ := specJoinsAll_calls g lf n (by omega) sd pl (hq _ k2) (by omega) (by omega) (by omega)
  have K3 := k2.trans (k3.mono k2.1)
  have e4 := specTriangleOk_N g lf n (by omega) sd (hq _ K3) (by omega) (by omega)
  by_cases hinv : triB sd xs = false ∨ 2 < pl
  · rw [joinsAll_nil hinv] at e2 e3
    cases hb : triB sd xs with
    | false =>
      rw [hb] at e4
      repeat (first | with_reducible refine wT ?_ | with_reducible refine wF ?_ | with_reducible refine wg1 rfl ?_ | with_reducible refine wg0 rfl ?_ | with_reducible refine wpT ?_ | with_reducible refine wnF ?_ | with_reducible refine wsm ?_ | with_reducible refine wrB ?_ | with_reducible refine wx0 ?_ | with_reducible refine wx1 ?_ | with_reducible refine wx2 ?_ | with_reducible refine wbd (by assumption) ?_ | (with_reducible refine wneqBB ?_) | (with_reducible refine wbd (hal _) ?_) | with_reducible refine wgtrF (by omega) ?_ | dsimp only)
      exact W.ret rfl
    | true =>
      rw [hb] at e4
      have hpl : 2 < pl := by
        rcases hinv with h | h
        · rw [hb] at h; cases h
        · exact h
      repeat (first | with_reducible refine wT ?_ | with_reducible refine wF ?_ | with_reducible refine wg1 rfl ?_ | with_reducible refine wpT ?_ | with_reducible refine wpF ?_ | with_reducible refine wnT ?_ | with_reducible refine wnF ?_ | with_reducible refine wpv ?_ | with_reducible refine wsm ?_ | with_reducible refine wrB ?_ | with_reducible refine wx0 ?_ | with_reducible refine wx1 ?_ | with_reducible refine wx2 ?_ | with_reducible refine wbd (by assumption) ?_ | (with_reducible refine wneqBB ?_) | (with_reducible refine wbd (hal _) ?_) | with_reducible refine wgtrT (by omega) ?_ | with_reducible refine wgtrF (by omega) ?_ | dsimp only)
      exact W.ret rfl
  have hb : triB sd xs = true := by
    cases e : triB sd xs with
    | true => rfl
    | false => exact (hinv (.inl e)).elim
  have hpl : ¬ 2 < pl := fun e => hinv (.inr e)
  rw [hb] at e4
  obtain ⟨S, A, hT⟩ := tri_of hb
  obtain ⟨P, rfl⟩ := Int.eq_ofNat_of_zero_le (show 0 ≤ pl by omega)
  have hP : P = 1 ∨ P = 2 := by omega
  have hO : 3 - P = 1 ∨ 3 - P = 2 := by omega
  have hcast : (3 : Int) - (P : Int) = ((3 - P : Nat) : Int) := by omega
  obtain ⟨h5, e5, k5⟩ := hJA h3 q xs sd (3 - (P : Int)) K3 (hq _ K3) (by omega)
  have K5 := K3.trans (k5.mono K3.1)
  obtain ⟨q6, h6, e6, o6, k6⟩ := hTU h5 q xs sd K5 (hq _ K5) (by omega)
  have K6 := K5.trans (k6.mono K5.1)
  have htl := turnedL_length sd xs
  obtain ⟨h7, e7, k7⟩ := hJA h6 q6 (turnedL sd xs) sd (P : Int) K6 o6.int (by omega)
  obtain ⟨t1, t2, t3, t4⟩ := turn_lt hT
  have hTt : Tri sd (turnedL sd xs) S (turnT S A) := by
    rw [tri_turned hT, hT.1]
    exact Tri.fill hT.2.1 hT.2.2.1 t1
  rw [tri_joins hTt hP, t4] at e7
  rw [tri_joins hT hP] at e2 e3
  rw [hcast, tri_joins hT hO] at e5
  obtain ⟨L, hL⟩ : ∃ L, L = lastT S A := ⟨_, rfl⟩
  rw [← hL] at e2 e3 e5 e7
  have hw : -4611686018427387904 ≤ (3 : Int) - (P : Int) ∧ (3 : Int) - (P : Int) ≤ 4611686018427387904 := by omega
  rcases hP with rfl | rfl
  · rw [if_pos rfl] at e2 e3 e7
    rw [if_neg (by decide)] at e5
    cases L with
    | true =>
      repeat (first | with_reducible refine wF ?_ | with_reducible refine wg1 rfl ?_ | with_reducible refine wpT ?_ | with_reducible refine wpF ?_ | with_reducible refine wnT ?_ | with_reducible refine wpv ?_ | with_reducible refine wsm ?_ | with_reducible refine wrB ?_ | with_reducible refine wx0 ?_ | with_reducible refine wx1 ?_ | with_reducible refine wx2 ?_ | with_reducible refine wbd (by assumption) ?_ | (with_reducible refine wneqBB ?_) | (with_reducible refine weqlBB ?_) | (with_reducible refine wsub hw ?_) | (rw [hcast]) | (with_reducible refine wneqBN (by decide) ?_) | with_reducible refine wgtrF (by omega) ?_ | dsimp only)
      exact W.ret rfl
    | false =>
      repeat (first | with_reducible refine wF ?_ | with_reducible refine wg1 rfl ?_ | with_reducible refine wpT ?_ | with_reducible refine wpF ?_ | with_reducible refine wnT ?_ | with_reducible refine wpv ?_ | with_reducible refine wsm ?_ | with_reducible refine wrB ?_ | with_reducible refine wx0 ?_ | with_reducible refine wx1 ?_ | with_reducible refine wx2 ?_ | with_reducible refine wbd (by assumption) ?_ | (with_reducible refine wneqBB ?_) | (with_reducible refine weqlBB ?_) | (with_reducible refine wsub hw ?_) | (rw [hcast]) | (with_reducible refine wneqBN (by decide) ?_) | with_reducible refine wgtrF (by omega) ?_ | dsimp only)
      exact W.ret rfl
  · rw [if_neg (by decide)] at e2 e3 e7
    rw [if_pos rfl] at e5
    cases L with
    | true =>
      repeat (first | with_reducible refine wF ?_ | with_reducible refine wg1 rfl ?_ | with_reducible refine wpT ?_ | with_reducible refine wpF ?_ | with_reducible refine wnT ?_ | with_reducible refine wpv ?_ | with_reducible refine wsm ?_ | with_reducible refine wrB ?_ | with_reducible refine wx0 ?_ | with_reducible refine wx1 ?_ | with_reducible refine wx2 ?_ | with_reducible refine wbd (by assumption) ?_ | (with_reducible refine wneqBB ?_) | (with_reducible refine weqlBB ?_) | (with_reducible refine wsub hw ?_) | (rw [hcast]) | (with_reducible refine wneqBN (by decide) ?_) | with_reducible refine wgtrF (by omega) ?_ | dsimp only)
      exact W.ret rfl
    | false =>
      repeat (first | with_reducible refine wF ?_ | with_reducible refine wg1 rfl ?_ | with_reducible refine wpT ?_ | with_reducible refine wpF ?_ | with_reducible refine wnT ?_ | with_reducible refine wpv ?_ | with_reducible refine wsm ?_ | with_reducible refine wrB ?_ | with_reducible refine wx0 ?_ | with_reducible refine wx1 ?_ | with_reducible refine wx2 ?_ | with_reducible refine wbd (by assumption) ?_ | (with_reducible refine wneqBB ?_) | (with_reducible refine weqlBB ?_) | (with_reducible refine wsub hw ?_) | (rw [hcast]) | (with_reducible refine wneqBN (by decide) ?_) | with_reducible refine wgtrF (by omega) ?_ | dsimp only)
      exact W.ret rfl

end Go.Proofs.YtlefknibddkjpaaDoor

/- The laws of chapter 7, continued: triangles that shrink, last cells, a stone more, neighbours and how many are won. -/
set_option maxRecDepth 20000
namespace Go.Proofs.YtlefknibddkjpaaDoor
open Go Go.Ip G

theorem listT_mem {S : Nat} (hS : S < 2 ^ 10) (e : Int) : e ∈ listT S ↔ ∃ j : Nat, e = (j : Int) ∧ S.testBit j = true := by
  unfold listT
  rw [listFrom_mem]
  constructor
  · rintro ⟨j, h1, _, _, h4⟩; exact ⟨j, h1, h4⟩
  · rintro ⟨j, h1, h4⟩; exact ⟨j, h1, Nat.zero_le _, by have := bit_small hS h4; omega, h4⟩
theorem listT_sorted (S : Nat) : ∀ i (hi : i + 1 < (listT S).length), (listT S)[i] < (listT S)[i + 1] := fun i hi =>
  List.pairwise_iff_getElem.1 (listFrom_sorted S 10 0) i (i + 1) (by have : i + 1 < (listT S).length := hi; unfold listT at this; omega) hi (by omega)
theorem near_facts {S K : Nat} (h1 : 1 ≤ S) (h4 : S ≤ 4) (hK : K < cellsT S) : (∀ j, (maskT S K).testBit j = true → j < cellsT S ∧ (maskT S j).testBit K = true ∧ j ≠ K) ∧ popT (maskT S K) ≤ 6 ∧ (cornerB S K = false → 4 ≤ popT (maskT S K)) ∧ (cornerB S K = true → S = 1 ∨ popT (maskT S K) = 2) := by
  have hs := List.all_eq_true.1 near_tri S (List.mem_range.2 (by omega))
  rw [Bool.or_eq_true, beq_iff_eq] at hs
  have hs := hs.resolve_left (by omega)
  have hk := List.all_eq_true.1 hs K (List.mem_range.2 hK)
  have hat : ∀ j, j < cellsT S → _ := fun j hj => List.all_eq_true.1 hk j (List.mem_range.2 hj)
  have h0 := hat K hK
  simp only [Bool.and_eq_true, Bool.or_eq_true, beq_iff_eq, decide_eq_true_eq, Bool.not_eq_true'] at h0
  obtain ⟨⟨⟨⟨⟨_, a2⟩, a3⟩, a4⟩, a5⟩, a6⟩ := h0
  refine ⟨fun j hj => ?_, a3, fun e => ?_, fun e => ?_⟩
  · have hjl : j < cellsT S := bit_small a6 hj
    have hb := hat j hjl
    simp only [Bool.and_eq_true, Bool.or_eq_true, beq_iff_eq, decide_eq_true_eq, Bool.not_eq_true'] at hb
    refine ⟨hjl, by rw [← hb.1.1.1.1.1]; exact hj, fun e => ?_⟩
    subst e; rw [a2] at hj; cases hj
  · rcases a4 with h | h
    · rw [e] at h; cases h
    · exact h
  · rcases a5 with (h | h) | h
    · rw [e] at h; cases h
    · exact .inl h
    · exact .inr h
/-- The counts on the way to the binomials stay small. -/
def okW (c f : Nat) : Nat → Nat → Nat → Bool
  | 0, _, w => decide (w ≤ 1000)
  | m + 1, k, w => decide (w ≤ 1000) && okW c f m (k + 1) (w * (c - f + k) / k)
theorem okW_all : ((List.range 5).all fun s => (List.range (cellsT s + 1)).all fun f => okW (cellsT s) f f 1 1) = true := by kernel_rfl
theorem okW_at {s f : Nat} (hs : s ≤ 4) (hf : f ≤ cellsT s) : okW (cellsT s) f f 1 1 = true :=
  List.all_eq_true.1 (List.all_eq_true.1 okW_all s (List.mem_range.2 (by omega))) f (List.mem_range.2 (by omega))
theorem wins_at {s f : Nat} (h1 : 1 ≤ s) (hs : s ≤ 4) (hf : f ≤ cellsT s) : winsT s f + winsT s (cellsT s - f) = waysT (cellsT s) f ∧ (s ≤ f ∨ winsT s f = 0) := by
  have := List.all_eq_true.1 wins_all s (List.mem_range.2 (by omega))
  rw [Bool.or_eq_true, beq_iff_eq] at this
  have := List.all_eq_true.1 (this.resolve_left (by omega)) f (List.mem_range.2 (by omega))
  simp only [Bool.and_eq_true, Bool.or_eq_true, beq_iff_eq, decide_eq_true_eq] at this
  exact this
theorem half_at {s : Nat} (h1 : 1 ≤ s) (hs : s ≤ 4) : 2 * ((List.range (cellsT s + 1)).foldl (fun a k => a + winsT s k) 0) = 2 ^ cellsT s ∧ winsT s (cellsT s) = 1 ∧ winsT s 0 = 0 := by
  have := List.all_eq_true.1 half_all s (List.mem_range.2 (by omega))
  rw [Bool.or_eq_true, beq_iff_eq] at this
  have := this.resolve_left (by omega)
  simp only [Bool.and_eq_true, beq_iff_eq] at this
  exact ⟨this.1.1, this.1.2, this.2⟩
theorem winsT_le {s f : Nat} (hs : s ≤ 4) : winsT s f ≤ 1024 := by
  have h := List.countP_le_length (p := fun A => popT A == f && lastT s A) (l := List.range (2 ^ cellsT s))
  rw [List.length_range] at h
  have : 2 ^ cellsT s ≤ 2 ^ 10 := Nat.pow_le_pow_right (by decide) (cellsT_le hs)
  have e : winsT s f = (List.range (2 ^ cellsT s)).countP fun A => popT A == f && lastT s A := rfl
  omega

section
variable {Q : PV → PHeap → Prop} {x y : Nat} {t : Nat} {P : Program} {f : PV → Res}
end

variable (g : Nat → PV) (lf n : Nat)

theorem fnShrunk_calls (hSh : ShrunkOk7 g lf) (hO : TriangleOkOk7 g lf) (hJ : JoinsAllOk7 g lf) {p : PV} {ys : List Int} {h : PHeap} (N : Nat) (hN : 45 ≤ N) (ha : Arg h p ys) (hlf : 3000 < lf) (ht : TabOk g h) :
    ∃ h', CL g lf N fn_laws_FnShrunk [p] h = some (.bool true, h') := by
  obtain ⟨n, rfl⟩ : ∃ n, N = n + 1 := ⟨N - 1, by omega⟩
  apply W.yes
  rw [laws_FnShrunk.call_eq]
  unfold laws_FnShrunk.main
  simp only [env_C, env_lf, env_pick, env_buildSlice, env_bin, env_un, env_extract, env_len]
  have hlenp : lenP Tryd.prog 22 p = some (.int .i64 ys.length) := (ha.1 h (Keep.refl _ _)).len tyB
  by_cases hbig : (1048576 : Int) < (ys.length : Int)
  · repeat (first | with_reducible refine wT ?_ | with_reducible refine wrB ?_ | with_reducible refine wbd (by assumption) ?_ | with_reducible refine wgtrT (by omega) ?_)
    exact W.ret rfl
  obtain ⟨sd, q, xs, h1, e1, k1, hq0, hl, hbd, hs1, hs5⟩ := drawShrunk_W g lf n (by omega) ha (by omega)
  have htF := tabF ht k1
  have hb1 : h1.length ≤ h1.length := Nat.le_refl _
  have k0 : Keep h1.length h1 h1 := Keep.refl _ _
  have hal : ∀ h2, CL g lf n fn_laws_alive [] h2 = some (.bool true, h2) := fun h2 => alive_calls g lf n (by omega) h2
  have hq : Fix h1.length h1 q xs := hq0.fix
  have hTO : ∀ h2 (q' : PV) (zs : List Int) (sd' : Int), Keep h1.length h1 h2 → IntSl .i64 h2 q' zs → zs.length ≤ 11 → ∃ h', CL g lf n fn_impl_TriangleOk [.int .i64 sd', q'] h2 = some (.bool (triB sd' zs), h') ∧ Keep h2.length h2 h' := fun h2 q' zs sd' k2 i2 l2 => hO n (by omega) sd' (htF _ k2) i2 (by omega) (by omega)
  have hJA : ∀ h2 (q' : PV) (zs : List Int) (sd' pl' : Int), Keep h1.length h1 h2 → IntSl .i64 h2 q' zs → zs.length ≤ 11 → ∃ h', CL g lf n fn_impl_JoinsAll [.int .i64 sd', q', .int .i64 pl'] h2 = some (.bool (joinsAllL sd' zs pl'), h') ∧ Keep h2.length h2 h' := fun h2 q' zs sd' pl' k2 i2 l2 => hJ n (by omega) sd' pl' (htF _ k2) i2 (by omega) (by omega)
  have hSH : ∀ h2 (q' : PV) (zs : List Int) (sd' : Int), Keep h1.length h1 h2 → IntSl .i64 h2 q' zs → zs.length ≤ 11 → ∃ q'' h', CL g lf n fn_impl_Shrunk [.int .i64 sd', q'] h2 = some (q'', h') ∧ OwnSl h2.length h' q'' (shrunkL sd' zs) ∧ Keep h2.length h2 h' := fun h2 q' zs sd' k2 i2 l2 => hSh n (by omega) sd' (htF _ k2) i2 (by omega) (by omega)
  obtain ⟨q2, h2, e2, o2, k2⟩ := hSH h1 q xs sd k0 (hq _ k0) (by omega)
  obtain ⟨q3, h3, e3, o3, k3⟩ := specShrunk_calls g lf n (by omega) sd (hq _ k2) (by omega) (by omega) (by omega)
  have K3 := k2.trans (k3.mono k2.1)
  have hsl := shrunkL_length sd xs
  have o2' := o2.keep k3
  have e4 := sameInts_N g lf n (by omega) o2'.int o3.int (by omega) (by omega)
  rw [decide_eq_true rfl] at e4
  have hlen := o2'.int.len'
  by_cases hinv : triB sd xs = false ∨ sd = 1
  · rw [shrunk_nil hinv] at hlen
    obtain ⟨h5, e5, k5⟩ := hTO h3 q xs sd K3 (hq _ K3) (by omega)
    cases hb : triB sd xs with
    | false =>
      rw [hb] at e5
      repeat (first | with_reducible refine wT ?_ | with_reducible refine wF ?_ | with_reducible refine wg1 rfl ?_ | with_reducible refine wg0 rfl ?_ | with_reducible refine wpT ?_ | with_reducible refine wnT ?_ | with_reducible refine wnF ?_ | with_reducible refine wsm ?_ | with_reducible refine wrB ?_ | with_reducible refine wx0 ?_ | with_reducible refine wx1 ?_ | with_reducible refine wbd (by assumption) ?_ | (with_reducible refine wbd (hal _) ?_) | (with_reducible refine weqlT rfl ?_) | with_reducible refine wgtrF (by omega) ?_ | dsimp only)
      exact W.ret rfl
    | true =>
      have hsd : sd = 1 := by
        rcases hinv with h | h
        · rw [hb] at h; cases h
        · exact h
      rw [hb] at e5
      repeat (first | with_reducible refine wT ?_ | with_reducible refine wF ?_ | with_reducible refine wg1 rfl ?_ | with_reducible refine wpT ?_ | with_reducible refine wpF ?_ | with_reducible refine wnT ?_ | with_reducible refine wpv ?_ | with_reducible refine wsm ?_ | with_reducible refine wrB ?_ | with_reducible refine wx0 ?_ | with_reducible refine wx1 ?_ | with_reducible refine wbd (by assumption) ?_ | (with_reducible refine wbd (hal _) ?_) | (with_reducible refine weqlT rfl ?_) | with_reducible refine wgtrF (by omega) ?_ | with_reducible refine weqlT (by omega) ?_ | dsimp only)
      exact W.ret rfl
  have hb : triB sd xs = true := by
    cases e : triB sd xs with
    | true => rfl
    | false => exact (hinv (.inl e)).elim
  have hsd1 : ¬ sd = 1 := fun e => hinv (.inr e)
  obtain ⟨S, A, hT⟩ := tri_of hb
  have hsd := hT.1
  have s1 := hT.2.1
  have s4 := hT.2.2.1
  have hA := hT.2.2.2.1
  have hx := hT.2.2.2.2.1
  have h2S : 2 ≤ S := by omega
  obtain ⟨r1, r2⟩ := shr_lt hT h2S
  obtain ⟨l1, l2, l3⟩ := tri_len hT
  have hes := tri_shrunk hT h2S
  have hcs : sd - 1 = ((S - 1 : Nat) : Int) := by omega
  have hTs : Tri (sd - 1) (shrunkL sd xs) (S - 1) (shrT S A) := by
    rw [hes, hcs]
    exact Tri.fill (by omega) (by omega) r1
  obtain ⟨m1, m2, m3⟩ := tri_len hTs
  have hTo : Tri sd (xs.map fun x => 3 - x) S (otherT S A) := by
    rw [hx, fill_map hA, hsd]; exact Tri.fill s1 s4 otherT_lt
  have heo : shrunkL sd (xs.map fun x => 3 - x) = (shrunkL sd xs).map fun x => 3 - x := by
    rw [tri_shrunk hTo h2S, hes, fill_map r1, r2]
  obtain ⟨Y, hY⟩ : ∃ Y, Y = shrunkL sd xs := ⟨_, rfl⟩
  rw [← hY] at o2' hlen m1 m2 m3 heo hTs
  have hlen0 : ¬ (Y.length : Int) = 0 := by omega
  have hYb : ∀ x ∈ Y, 1 ≤ x ∧ x ≤ 2 := by
    have := hTs.ok
    unfold triB at this
    simp only [Bool.and_eq_true, decide_eq_true_eq, List.all_eq_true] at this
    exact this.1
  have f2 : Fix h3.length h3 q2 Y := o2'.int.fix
  have hq3 : Fix h3.length h3 q xs := hq.re K3 hb1
  repeat (first | with_reducible refine wF ?_ | with_reducible refine wnT ?_ | with_reducible refine wx0 ?_ | with_reducible refine wx1 ?_ | with_reducible refine wbd (by assumption) ?_ | with_reducible refine wgtrF (by omega) ?_ | with_reducible refine weqlF (by omega) ?_ | dsimp only)
  refine wempty fun qa ha oa ka => ?_
  refine wempty fun qw hw ow kw => ?_
  have hal1 := ka.1
  have hwl1 := kw.1
  have Kw : Keep h3.length h3 hw := ka.trans (kw.mono hal1)
  refine loopW (fun m st => ∃ (i : Nat) (q4 : PV) (zs : List Int) (h4 : PHeap), st = laws_FnShrunk.st0 (.int .i64 sd) q q2 q4 qw (.int .i64 (i : Int)) h4 ∧ i + m = xs.length ∧ zs = (xs.take i).map (fun x => 3 - x) ∧ Apart h3.length ha.length hw.length h4 q4 zs ∧ OwnB ha.length hw.length h4 qw [] ∧ hw.length ≤ h4.length ∧ Keep h3.length h3 h4) ?_ lf xs.length _ (by omega) ⟨0, qa, [], hw, rfl, by omega, rfl, ⟨h3.length, ha.length, oa.b.keep kw, Nat.le_refl _, .inl (Nat.le_refl _), hwl1⟩, ow.b, Nat.le_refl _, Kw⟩
  rintro n1 m st ⟨i, q4, zs, h4, rfl, him, hz, a4, b4, g4, k4⟩ next
  have hi4 := hq3 _ k4
  have hlq := hi4.len'
  have hzl : zs.length = i := by rw [hz, List.length_map, List.length_take]; omega
  rw [laws_FnShrunk.body0_eq]
  unfold laws_FnShrunk.body0
  simp only [env_buildSlice, env_load, env_bin, env_indexAddr, env_len, env_append]
  cases m with
  | succ m =>
    have hi : i < xs.length := by omega
    have hx := hbd xs[i] (List.getElem_mem hi)
    obtain ⟨a, ea, la⟩ := hi4.at' hi
    have hwb : -4611686018427387904 ≤ (3 : Int) - xs[i] ∧ (3 : Int) - xs[i] ≤ 4611686018427387904 := by omega
    repeat (first | with_reducible refine wT ?_ | with_reducible refine wbd (by assumption) ?_ | (with_reducible refine wsub hwb ?_) | with_reducible refine wlssT (by omega) ?_)
    refine wapA a4 b4 k4.1 g4 (by omega) fun p' h5 a5 b5 k5 => ?_
    have k5' := k5.1
    repeat (first | with_reducible refine wadd1 (by omega) ?_ | dsimp only)
    exact next _ _ (Nat.lt_succ_self m) ⟨i + 1, p', _, h5, rfl, by omega, by rw [take_map hi, ← hz], a5, b5, Nat.le_trans g4 k5.1, k4.trans k5⟩
  | zero =>
    have hz' : zs = xs.map fun x => 3 - x := by rw [hz, List.take_of_length_le (by omega)]
    have hlen4 := hlen
    repeat (first | with_reducible refine wF ?_ | with_reducible refine wbd (by assumption) ?_ | with_reducible refine wlssF (by omega) ?_ | rw [kLoop_exit] | rw [laws_FnShrunk.after0_se0_3_4_5_6_7_8_46] | simp only [env_C, env_g, env_lf, env_pick, env_alloc, env_box, env_build, env_buildSlice, env_load, env_store, env_ptr, env_bin, env_un, env_conv, env_make, env_slice, env_fieldAddr, env_field, env_indexAddr, env_index, env_extract, env_len, env_append, env_max, env_min, env_makeMap, env_lookup, env_update])
    obtain ⟨n4, m4, on, hn0, hd, hm⟩ := a4
    have hwl := b4
    refine loopW (fun m st => ∃ (i : Nat) (q5 : PV) (ys : List Int) (h5 : PHeap), st = laws_FnShrunk.st1 (.int .i64 sd) q q2 q4 q5 (.int .i64 (i : Int)) h5 ∧ i + m = Y.length ∧ ys = (Y.take i).map (fun x => 3 - x) ∧ Apart h3.length n4 m4 h5 q5 ys ∧ OwnB n4 m4 h5 q4 zs ∧ m4 ≤ h5.length ∧ Keep h3.length h3 h5) ?_ lf Y.length _ (by omega) ⟨0, qw, [], h4, rfl, by omega, rfl, ⟨ha.length, hw.length, b4, by omega, hd.symm, g4⟩, on, hm, k4⟩
    rintro n2 m st ⟨j, q5, ys, h5, rfl, hjm, hy, a5, b5, g5, k5⟩ next
    have hi5 := f2 _ k5
    have hlq5 := hi5.len'
    have hyl : ys.length = j := by rw [hy, List.length_map, List.length_take]; omega
    rw [laws_FnShrunk.body1_eq]
    unfold laws_FnShrunk.body1
    simp only [env_buildSlice, env_load, env_bin, env_indexAddr, env_len, env_append]
    cases m with
    | succ m =>
      have hj : j < Y.length := by omega
      have hx := hYb Y[j] (List.getElem_mem hj)
      obtain ⟨a, ea, la⟩ := hi5.at' hj
      have hwb : -4611686018427387904 ≤ (3 : Int) - Y[j] ∧ (3 : Int) - Y[j] ≤ 4611686018427387904 := by omega
      repeat (first | with_reducible refine wT ?_ | with_reducible refine wbd (by assumption) ?_ | (with_reducible refine wsub hwb ?_) | with_reducible refine wlssT (by omega) ?_)
      refine wapA a5 b5 k5.1 g5 (by omega) fun p' h6 a6 b6 k6 => ?_
      repeat (first | with_reducible refine wadd1 (by omega) ?_ | dsimp only)
      exact next _ _ (Nat.lt_succ_self m) ⟨j + 1, p', _, h6, rfl, by omega, by rw [take_map hj, ← hy], a6, b6, Nat.le_trans g5 k6.1, k5.trans k6⟩
    | zero =>
      have hy' : ys = Y.map fun x => 3 - x := by rw [hy, List.take_of_length_le (by omega)]
      have K5 : Keep h1.length h1 h5 := K3.trans (k5.mono K3.1)
      obtain ⟨h6, e6, k6⟩ := hTO h5 q2 Y (sd - 1) K5 hi5 (by omega)
      rw [hTs.ok] at e6
      have K6 := K5.trans (k6.mono K5.1)
      have j1 : joinsAllL (sd - 1) Y 1 = lastT (S - 1) (shrT S A) := tri_joins hTs (P := 1) (.inl rfl)
      have j2 : joinsAllL sd xs 1 = lastT S A := tri_joins hT (P := 1) (.inl rfl)
      rw [← last_shr h2S, ← j2] at j1
      obtain ⟨h7, e7, k7⟩ := hJA h6 q2 Y (sd - 1) 1 K6 (hi5.keep k6) (by omega)
      rw [j1] at e7
      have K7 := K6.trans (k7.mono K6.1)
      obtain ⟨h8, e8, k8⟩ := hJA h7 q xs sd 1 K7 (hq _ K7) (by omega)
      have K8 := K7.trans (k8.mono K7.1)
      have os := ((b5.sl.keep k6).keep k7).keep k8
      have ow5 := ((a5.sl.keep k6).keep k7).keep k8
      obtain ⟨q9, h9, e9, o9, k9⟩ := hSH h8 q4 zs sd K8 os.int (by omega)
      rw [hz', heo, ← hy'] at o9
      have eA := sameInts_N g lf n (by omega) o9.int (ow5.keep k9).int (by omega) (by omega)
      rw [decide_eq_true rfl] at eA
      have hwb : -4611686018427387904 ≤ sd - 1 ∧ sd - 1 ≤ 4611686018427387904 := by omega
      repeat (first | with_reducible refine wF ?_ | with_reducible refine wg1 rfl ?_ | with_reducible refine wpT ?_ | with_reducible refine wpv ?_ | with_reducible refine wsm ?_ | with_reducible refine wrB ?_ | with_reducible refine wbd (by assumption) ?_ | (with_reducible refine weqlBB ?_) | (with_reducible refine wsub hwb ?_) | with_reducible refine wlssF (by omega) ?_ | rw [kLoop_exit] | rw [laws_FnShrunk.after1_se2_3_4_5_6_7_9_60] | dsimp only | simp only [env_C, env_g, env_lf, env_pick, env_alloc, env_box, env_build, env_buildSlice, env_load, env_store, env_ptr, env_bin, env_un, env_conv, env_make, env_slice, env_fieldAddr, env_field, env_indexAddr, env_index, env_extract, env_len, env_append, env_max, env_min, env_makeMap, env_lookup, env_update])
      exact W.ret rfl

theorem fnLastCell_calls (hL : LastCellOk7 g lf) (hO : TriangleOkOk7 g lf) (hJ : JoinsAllOk7 g lf) {p : PV} {ys : List Int} {h : PHeap} (N : Nat) (hN : 45 ≤ N) (ha : Arg h p ys) (hlf : 3000 < lf) (ht : TabOk g h) :
    ∃ h', CL g lf N fn_laws_FnLastCell [p] h = some (.bool true, h') := by
  obtain ⟨n, rfl⟩ : ∃ n, N = n + 1 := ⟨N - 1, by omega⟩
  apply W.yes
  rw [laws_FnLastCell.call_eq]
  unfold laws_FnLastCell.main
  simp only [env_C, env_lf, env_pick, env_buildSlice, env_bin, env_un, env_extract, env_len, env_append]
  have hlenp : lenP Tryd.prog 22 p = some (.int .i64 ys.length) := (ha.1 h (Keep.refl _ _)).len tyB
  by_cases hbig : (1048576 : Int) < (ys.length : Int)
  · repeat (first | with_reducible refine wT ?_ | with_reducible refine wrB ?_ | with_reducible refine wbd (by assumption) ?_ | with_reducible refine wgtrT (by omega) ?_)
    exact W.ret rfl
  obtain ⟨sd, q, xs, h1, e1, k1, hq0, hl, hbd, hs1, hs5⟩ := drawLastCell_W g lf n (by omega) ha (by omega)
  have htF := tabF ht k1
  have hb1 : h1.length ≤ h1.length := Nat.le_refl _
  have k0 : Keep h1.length h1 h1 := Keep.refl _ _
  have hal : ∀ h2, CL g lf n fn_laws_alive [] h2 = some (.bool true, h2) := fun h2 => alive_calls g lf n (by omega) h2
  have hq : Fix h1.length h1 q xs := hq0.fix
  have hTO : ∀ h2 (q' : PV) (zs : List Int) (sd' : Int), Keep h1.length h1 h2 → IntSl .i64 h2 q' zs → zs.length ≤ 11 → ∃ h', CL g lf n fn_impl_TriangleOk [.int .i64 sd', q'] h2 = some (.bool (triB sd' zs), h') ∧ Keep h2.length h2 h' := fun h2 q' zs sd' k2 i2 l2 => hO n (by omega) sd' (htF _ k2) i2 (by omega) (by omega)
  have hJA : ∀ h2 (q' : PV) (zs : List Int) (sd' pl' : Int), Keep h1.length h1 h2 → IntSl .i64 h2 q' zs → zs.length ≤ 11 → ∃ h', CL g lf n fn_impl_JoinsAll [.int .i64 sd', q', .int .i64 pl'] h2 = some (.bool (joinsAllL sd' zs pl'), h') ∧ Keep h2.length h2 h' := fun h2 q' zs sd' pl' k2 i2 l2 => hJ n (by omega) sd' pl' (htF _ k2) i2 (by omega) (by omega)
  have hLC : ∀ h2 (q' : PV) (zs : List Int), Keep h1.length h1 h2 → IntSl .i64 h2 q' zs → zs.length ≤ 11 → ∃ h', CL g lf n fn_impl_LastCell [.int .i64 sd, q'] h2 = some (.int .i64 (lastL sd zs), h') ∧ Keep h2.length h2 h' := fun h2 q' zs k2 i2 l2 => hL n (by omega) sd (htF _ k2) i2 (by omega) (by omega)
  obtain ⟨h2, e2, k2⟩ := hLC h1 q xs k0 (hq _ k0) (by omega)
  obtain ⟨h3, e3, k3⟩ := specLastCell_calls g lf n (by omega) sd (hq _ k2) (by omega) (by omega) (by omega)
  have K3 := k2.trans (k3.mono k2.1)
  cases hb : triB sd xs with
  | false =>
    obtain ⟨h5, e5, k5⟩ := hTO h3 q xs sd K3 (hq _ K3) (by omega)
    rw [hb] at e5
    rw [last_zero.2 hb] at e2 e3
    repeat (first | with_reducible refine wT ?_ | with_reducible refine wF ?_ | with_reducible refine wg1 rfl ?_ | with_reducible refine wpT ?_ | with_reducible refine wnF ?_ | with_reducible refine wrB ?_ | with_reducible refine wx0 ?_ | with_reducible refine wx1 ?_ | with_reducible refine wbd (by assumption) ?_ | (with_reducible refine wbd (hal _) ?_) | with_reducible refine wgtrF (by omega) ?_ | with_reducible refine weqlT (by omega) ?_ | with_reducible refine wneqF (by omega) ?_ | dsimp only)
    exact W.ret rfl
  | true =>
    obtain ⟨S, A, hT⟩ := tri_of hb
    obtain ⟨l1, l2, l3⟩ := tri_len hT
    have hlast := fun k (hk : k < xs.length) => last_set hT hk
    obtain ⟨V, hV⟩ : ∃ V, V = lastL sd xs := ⟨_, rfl⟩
    rw [← hV] at e2 e3 hlast
    have hV12 : V = 1 ∨ V = 2 := by
      rw [hV, tri_last hT]
      cases lastT S A
      · exact .inr rfl
      · exact .inl rfl
    have hjv : joinsAllL sd xs V = true := by
      rw [hV, tri_last hT]
      cases hl : lastT S A with
      | true =>
        have := tri_joins hT (P := 1) (.inl rfl)
        rw [if_pos rfl, hl] at this
        exact this
      | false =>
        have := tri_joins hT (P := 2) (.inr rfl)
        rw [if_neg (by decide), hl] at this
        exact this
    have hV0 : ¬ V = 0 := by omega
    obtain ⟨v5, q5, h5, e5, e5', o5, k5⟩ := copy_all (hq _ K3) (by omega) (by omega)
    have K5 := K3.trans (k5.mono K3.1)
    repeat (first | with_reducible refine wF ?_ | with_reducible refine wx0 ?_ | with_reducible refine wx1 ?_ | with_reducible refine wbd (by assumption) ?_ | with_reducible refine wgtrF (by omega) ?_ | with_reducible refine weqlF (by omega) ?_ | with_reducible refine wneqF (by omega) ?_ | dsimp only)
    refine loopW (fun m st => ∃ (i : Nat), st = laws_FnLastCell.st0 (.int .i64 sd) q (.int .i64 V) q5 (.int .i64 (i : Int)) h5 ∧ i + m = xs.length) ?_ lf xs.length _ (by omega) ⟨0, rfl, by omega⟩
    rintro n1 m st ⟨i, rfl, him⟩ next
    have hlq := o5.int.len'
    rw [laws_FnLastCell.body0_eq]
    unfold laws_FnLastCell.body0
    simp only [env_load, env_store, env_bin, env_indexAddr, env_len]
    cases m with
    | succ m =>
      have hi : i < xs.length := by omega
      repeat (first | with_reducible refine wT ?_ | with_reducible refine wbd (by assumption) ?_ | with_reducible refine wlssT (by omega) ?_)
      refine wat o5.int hi fun a la => ?_
      repeat (first | with_reducible refine wbd (by assumption) ?_)
      refine wneq (fun e => ?_) (fun e => ?_)
      · repeat (first | with_reducible refine wT ?_)
        refine wst o5 hi fun h6 o6 k6 l6 a6 e6 => ?_
        have K6 := K3.trans ((k5.trans k6).mono K3.1)
        obtain ⟨h7, e7, k7⟩ := hJA h6 q xs sd V K6 (hq _ K6) (by omega)
        rw [hjv] at e7
        have K7 := K6.trans (k7.mono K6.1)
        obtain ⟨h8, e8, k8⟩ := hLC h7 q5 _ K7 (o6.keep k7).int (by rw [List.length_set]; omega)
        rw [hlast i hi e] at e8
        repeat (first | with_reducible refine wg1 rfl ?_ | with_reducible refine wpT ?_ | with_reducible refine wpv ?_ | with_reducible refine wsm ?_ | with_reducible refine wrB ?_ | with_reducible refine wbd (by assumption) ?_ | with_reducible refine weqlT (by omega) ?_ | rw [kLoop_exit] | rw [laws_FnLastCell.after0_se0_3_4_5_6] | dsimp only | simp only [env_C, env_g, env_lf, env_pick, env_alloc, env_box, env_build, env_buildSlice, env_load, env_store, env_ptr, env_bin, env_un, env_conv, env_make, env_slice, env_fieldAddr, env_field, env_indexAddr, env_index, env_extract, env_len, env_append, env_max, env_min, env_makeMap, env_lookup, env_update])
        exact W.ret rfl
      · repeat (first | with_reducible refine wF ?_ | with_reducible refine wadd1 (by omega) ?_)
        exact next _ _ (Nat.lt_succ_self m) ⟨i + 1, rfl, by omega⟩
    | zero =>
      obtain ⟨h7, e7, k7⟩ := hJA h5 q xs sd V K5 (hq _ K5) (by omega)
      rw [hjv] at e7
      have K7 := K5.trans (k7.mono K5.1)
      obtain ⟨h8, e8, k8⟩ := hLC h7 q5 _ K7 (o5.keep k7).int (by omega)
      rw [← hV] at e8
      repeat (first | with_reducible refine wF ?_ | with_reducible refine wg1 rfl ?_ | with_reducible refine wpT ?_ | with_reducible refine wpv ?_ | with_reducible refine wsm ?_ | with_reducible refine wrB ?_ | with_reducible refine wbd (by assumption) ?_ | with_reducible refine wlssF (by omega) ?_ | with_reducible refine weqlT (by omega) ?_ | rw [kLoop_exit] | rw [laws_FnLastCell.after0_se0_3_4_5_6_7_39] | dsimp only | simp only [env_C, env_g, env_lf, env_pick, env_alloc, env_box, env_build, env_buildSlice, env_load, env_store, env_ptr, env_bin, env_un, env_conv, env_make, env_slice, env_fieldAddr, env_field, env_indexAddr, env_index, env_extract, env_len, env_append, env_max, env_min, env_makeMap, env_lookup, env_update])
      exact W.ret rfl

theorem fnJoinsMore_calls (hJ : JoinsAllOk7 g lf) {p : PV} {ys : List Int} {h : PHeap} (N : Nat) (hN : 45 ≤ N) (ha : Arg h p ys) (hlf : 3000 < lf) (ht : TabOk g h) :
    ∃ h', CL g lf N fn_laws_FnJoinsMore [p] h = some (.bool true, h') := by
  obtain ⟨n, rfl⟩ : ∃ n, N = n + 1 := ⟨N - 1, by omega⟩
  apply W.yes
  rw [laws_FnJoinsMore.call_eq]
  unfold laws_FnJoinsMore.main
  simp only [env_C, env_lf, env_pick, env_buildSlice, env_bin, env_un, env_extract, env_len, env_append]
  have hlenp : lenP Tryd.prog 22 p = some (.int .i64 ys.length) := (ha.1 h (Keep.refl _ _)).len tyB
  by_cases hbig : (1048576 : Int) < (ys.length : Int)
  · repeat (first | with_reducible refine wT ?_ | with_reducible refine wrB ?_ | with_reducible refine wbd (by assumption) ?_ | with_reducible refine wgtrT (by omega) ?_)
    exact W.ret rfl
  obtain ⟨sd, q, xs, pl, h1, e1, k1, hq0, hl, hbd, hs1, hs5, hp1, hp4⟩ := drawJoinsAll_W g lf n (by omega) ha (by omega)
  have htF := tabF ht k1
  have hb1 : h1.length ≤ h1.length := Nat.le_refl _
  have k0 : Keep h1.length h1 h1 := Keep.refl _ _
  have hal : ∀ h2, CL g lf n fn_laws_alive [] h2 = some (.bool true, h2) := fun h2 => alive_calls g lf n (by omega) h2
  have hq : Fix h1.length h1 q xs := hq0.fix
  have hJA : ∀ h2 (q' : PV) (zs : List Int) (sd' pl' : Int), Keep h1.length h1 h2 → IntSl .i64 h2 q' zs → zs.length ≤ 11 → ∃ h', CL g lf n fn_impl_JoinsAll [.int .i64 sd', q', .int .i64 pl'] h2 = some (.bool (joinsAllL sd' zs pl'), h') ∧ Keep h2.length h2 h' := fun h2 q' zs sd' pl' k2 i2 l2 => hJ n (by omega) sd' pl' (htF _ k2) i2 (by omega) (by omega)
  obtain ⟨h2, e2, k2⟩ := hJA h1 q xs sd 1 k0 (hq _ k0) (by omega)
  cases hj1 : joinsAllL sd xs 1 with
  | false =>
    rw [hj1] at e2
    obtain ⟨h3, e3, k3⟩ := specJoinsAll_calls g lf n (by omega) sd 2 (hq _ k2) (by omega) (by omega) (by omega)
    have K3 := k2.trans (k3.mono k2.1)
    obtain ⟨h4, e4, k4⟩ := hJA h3 q xs sd 2 K3 (hq _ K3) (by omega)
    repeat (first | with_reducible refine wT ?_ | with_reducible refine wF ?_ | with_reducible refine wg1 rfl ?_ | with_reducible refine wpT ?_ | with_reducible refine wnF ?_ | with_reducible refine wrB ?_ | with_reducible refine wx0 ?_ | with_reducible refine wx1 ?_ | with_reducible refine wx2 ?_ | with_reducible refine wbd (by assumption) ?_ | (with_reducible refine weqlBB ?_) | (with_reducible refine wbd (hal _) ?_) | with_reducible refine wgtrF (by omega) ?_ | dsimp only)
    exact W.ret rfl
  | true =>
  rw [hj1] at e2
  have hb : triB sd xs = true := by
    cases e : triB sd xs with
    | true => rfl
    | false => rw [joinsAll_nil (.inl e)] at hj1; cases hj1
  obtain ⟨S, A, hT⟩ := tri_of hb
  obtain ⟨l1, l2, l3⟩ := tri_len hT
  have hlA : lastT S A = true := by
    have : joinsAllL sd xs 1 = lastT S A := tri_joins hT (P := 1) (.inl rfl)
    rw [← this]; exact hj1
  have hmore := fun k (hk : k < xs.length) => more_set hT hk hlA
  obtain ⟨v5, q5, h5, e5, e5', o5, k5⟩ := copy_all (hq _ k2) (by omega) (by omega)
  have K5 := k2.trans (k5.mono k2.1)
  obtain ⟨v7, q7, h7, e7, e7', o7, k7⟩ := copy_all (hq _ K5) (by omega) (by omega)
  have K7 := K5.trans (k7.mono K5.1)
  have b5 : OwnB h2.length h5.length h7 q5 xs := o5.b.keep k7
  have b7 : OwnB h5.length h7.length h7 q7 xs := o7.b
  have hg5 := k5.1
  have hg7 := k7.1
  have hg2 := k2.1
  have hwl : -4611686018427387904 ≤ (xs.length : Int) - 1 ∧ (xs.length : Int) - 1 ≤ 4611686018427387904 := by omega
  repeat (first | with_reducible refine wF ?_ | with_reducible refine wnT ?_ | with_reducible refine wx0 ?_ | with_reducible refine wx1 ?_ | with_reducible refine wx2 ?_ | with_reducible refine wbd (by assumption) ?_ | with_reducible refine wgtrF (by omega) ?_ | dsimp only)
  refine loopW (fun m st => ∃ (i : Nat), st = laws_FnJoinsMore.st0 (.int .i64 sd) q q5 q7 (.int .i64 (i : Int)) h7 ∧ i + m = xs.length) ?_ lf xs.length _ (by omega) ⟨0, rfl, by omega⟩
  rintro n1 m st ⟨i, rfl, him⟩ next
  have hlq := (hq _ K7).len'
  rw [laws_FnJoinsMore.body0_eq]
  unfold laws_FnJoinsMore.body0
  simp only [env_load, env_store, env_bin, env_indexAddr, env_len]
  cases m with
  | succ m =>
    have hi : i < xs.length := by omega
    repeat (first | with_reducible refine wT ?_ | with_reducible refine wbd (by assumption) ?_ | with_reducible refine wlssT (by omega) ?_)
    refine wat (hq _ K7) hi fun a la => ?_
    repeat (first | with_reducible refine wbd (by assumption) ?_)
    refine weql (fun e => ?_) (fun e => ?_)
    · repeat (first | with_reducible refine wT ?_)
      refine wstB b5 hi fun h8 o8 k8 a8 => ?_
      have b8 := b7.only k8 (.inr (Nat.le_refl _))
      have K8 : Keep h1.length h1 h8 := K7.trans (k8.keep.mono (by omega))
      have hlq8 := (hq _ K8).len'
      have hll : (xs.set i 1).length ≤ 11 := by rw [List.length_set]; omega
      repeat (first | with_reducible refine wbd (by assumption) ?_ | (with_reducible refine wsub hwl ?_) | rw [kLoop_exit] | rw [laws_FnJoinsMore.after0_se0_3_4_6_7] | simp only [env_C, env_g, env_lf, env_pick, env_alloc, env_box, env_build, env_buildSlice, env_load, env_store, env_ptr, env_bin, env_un, env_conv, env_make, env_slice, env_fieldAddr, env_field, env_indexAddr, env_index, env_extract, env_len, env_append, env_max, env_min, env_makeMap, env_lookup, env_update])
      refine loopW (fun m st => ∃ (I : Int), st = laws_FnJoinsMore.st1 (.int .i64 sd) q q5 q7 (.int .i64 I) h8 ∧ I = (m : Int) - 1 ∧ m ≤ xs.length) ?_ lf xs.length _ (by omega) ⟨_, rfl, rfl, Nat.le_refl _⟩
      rintro n2 m2 st2 ⟨I, rfl, hI, hm2⟩ next2
      rw [laws_FnJoinsMore.body1_eq]
      unfold laws_FnJoinsMore.body1
      simp only [env_load, env_store, env_bin, env_indexAddr]
      cases m2 with
      | succ m2 =>
        have hj : m2 < xs.length := by omega
        obtain rfl : I = (m2 : Int) := by omega
        have hwj : -4611686018427387904 ≤ (m2 : Int) - 1 ∧ (m2 : Int) - 1 ≤ 4611686018427387904 := by omega
        repeat (first | with_reducible refine wT ?_ | with_reducible refine wgeqT (by omega) ?_)
        refine wat (hq _ K8) hj fun a la => ?_
        repeat (first | with_reducible refine wbd (by assumption) ?_)
        refine weql (fun e => ?_) (fun e => ?_)
        · repeat (first | with_reducible refine wT ?_)
          refine wstB b8 hj fun hs osb ksb asb => ?_
          have Ks : Keep h1.length h1 hs := K8.trans (ksb.keep.mono (by omega))
          have oa := o8.only ksb (.inl (Nat.le_refl _))
          obtain ⟨hA, eA, kA⟩ := hJA hs q5 _ sd 1 Ks oa.int hll
          rw [hmore i hi] at eA
          have KA := Ks.trans (kA.mono Ks.1)
          obtain ⟨hB, eB, kB⟩ := hJA hA q7 _ sd 1 KA (osb.sl.keep kA).int (by rw [List.length_set]; omega)
          rw [hmore m2 hj] at eB
          repeat (first | with_reducible refine wg1 rfl ?_ | with_reducible refine wpT ?_ | with_reducible refine wpv ?_ | with_reducible refine wsm ?_ | with_reducible refine wrB ?_ | with_reducible refine wbd (by assumption) ?_ | (with_reducible refine wbd (hal _) ?_) | rw [kLoop_exit] | rw [laws_FnJoinsMore.after1_se2_3_6_7] | dsimp only | simp only [env_C, env_g, env_lf, env_pick, env_alloc, env_box, env_build, env_buildSlice, env_load, env_store, env_ptr, env_bin, env_un, env_conv, env_make, env_slice, env_fieldAddr, env_field, env_indexAddr, env_index, env_extract, env_len, env_append, env_max, env_min, env_makeMap, env_lookup, env_update])
          exact W.ret rfl
        · repeat (first | with_reducible refine wF ?_ | (with_reducible refine wsub hwj ?_))
          exact next2 _ _ (Nat.lt_succ_self m2) ⟨_, rfl, rfl, by omega⟩
      | zero =>
        obtain rfl : I = -1 := by omega
        obtain ⟨hA, eA, kA⟩ := hJA h8 q5 _ sd 1 K8 o8.int hll
        rw [hmore i hi] at eA
        have KA := K8.trans (kA.mono K8.1)
        obtain ⟨hB, eB, kB⟩ := hJA hA q7 _ sd 1 KA (b8.sl.keep kA).int (by omega)
        rw [hj1] at eB
        repeat (first | with_reducible refine wF ?_ | with_reducible refine wg1 rfl ?_ | with_reducible refine wpT ?_ | with_reducible refine wpv ?_ | with_reducible refine wsm ?_ | with_reducible refine wrB ?_ | with_reducible refine wbd (by assumption) ?_ | (with_reducible refine wbd (hal _) ?_) | with_reducible refine wgeqF (by omega) ?_ | rw [kLoop_exit] | rw [laws_FnJoinsMore.after1_se2_3_4_6_7_9_57] | dsimp only | simp only [env_C, env_g, env_lf, env_pick, env_alloc, env_box, env_build, env_buildSlice, env_load, env_store, env_ptr, env_bin, env_un, env_conv, env_make, env_slice, env_fieldAddr, env_field, env_indexAddr, env_index, env_extract, env_len, env_append, env_max, env_min, env_makeMap, env_lookup, env_update])
        exact W.ret rfl
    · repeat (first | with_reducible refine wF ?_ | with_reducible refine wadd1 (by omega) ?_)
      exact next _ _ (Nat.lt_succ_self m) ⟨i + 1, rfl, by omega⟩
  | zero =>
    have hll : xs.length ≤ 11 := by omega
    repeat (first | with_reducible refine wF ?_ | with_reducible refine wbd (by assumption) ?_ | (with_reducible refine wsub hwl ?_) | with_reducible refine wlssF (by omega) ?_ | rw [kLoop_exit] | rw [laws_FnJoinsMore.after0_se0_3_4_6_7_8_42] | simp only [env_C, env_g, env_lf, env_pick, env_alloc, env_box, env_build, env_buildSlice, env_load, env_store, env_ptr, env_bin, env_un, env_conv, env_make, env_slice, env_fieldAddr, env_field, env_indexAddr, env_index, env_extract, env_len, env_append, env_max, env_min, env_makeMap, env_lookup, env_update])
    refine loopW (fun m st => ∃ (I : Int), st = laws_FnJoinsMore.st1 (.int .i64 sd) q q5 q7 (.int .i64 I) h7 ∧ I = (m : Int) - 1 ∧ m ≤ xs.length) ?_ lf xs.length _ (by omega) ⟨_, rfl, rfl, Nat.le_refl _⟩
    rintro n2 m2 st2 ⟨I, rfl, hI, hm2⟩ next2
    rw [laws_FnJoinsMore.body1_eq]
    unfold laws_FnJoinsMore.body1
    simp only [env_load, env_store, env_bin, env_indexAddr]
    cases m2 with
    | succ m2 =>
      have hj : m2 < xs.length := by omega
      obtain rfl : I = (m2 : Int) := by omega
      have hwj : -4611686018427387904 ≤ (m2 : Int) - 1 ∧ (m2 : Int) - 1 ≤ 4611686018427387904 := by omega
      repeat (first | with_reducible refine wT ?_ | with_reducible refine wgeqT (by omega) ?_)
      refine wat (hq _ K7) hj fun a la => ?_
      repeat (first | with_reducible refine wbd (by assumption) ?_)
      refine weql (fun e => ?_) (fun e => ?_)
      · repeat (first | with_reducible refine wT ?_)
        refine wstB b7 hj fun hs osb ksb asb => ?_
        have Ks : Keep h1.length h1 hs := K7.trans (ksb.keep.mono (by omega))
        have oa := b5.only ksb (.inl (Nat.le_refl _))
        obtain ⟨hA, eA, kA⟩ := hJA hs q5 _ sd 1 Ks oa.int hll
        rw [hj1] at eA
        have KA := Ks.trans (kA.mono Ks.1)
        obtain ⟨hB, eB, kB⟩ := hJA hA q7 _ sd 1 KA (osb.sl.keep kA).int (by rw [List.length_set]; omega)
        rw [hmore m2 hj] at eB
        repeat (first | with_reducible refine wg1 rfl ?_ | with_reducible refine wpT ?_ | with_reducible refine wpv ?_ | with_reducible refine wsm ?_ | with_reducible refine wrB ?_ | with_reducible refine wbd (by assumption) ?_ | (with_reducible refine wbd (hal _) ?_) | rw [kLoop_exit] | rw [laws_FnJoinsMore.after1_se2_3_6_7] | dsimp only | simp only [env_C, env_g, env_lf, env_pick, env_alloc, env_box, env_build, env_buildSlice, env_load, env_store, env_ptr, env_bin, env_un, env_conv, env_make, env_slice, env_fieldAddr, env_field, env_indexAddr, env_index, env_extract, env_len, env_append, env_max, env_min, env_makeMap, env_lookup, env_update])
        exact W.ret rfl
      · repeat (first | with_reducible refine wF ?_ | (with_reducible refine wsub hwj ?_))
        exact next2 _ _ (Nat.lt_succ_self m2) ⟨_, rfl, rfl, by omega⟩
    | zero =>
      obtain rfl : I = -1 := by omega
      obtain ⟨hA, eA, kA⟩ := hJA h7 q5 _ sd 1 K7 b5.int hll
      rw [hj1] at eA
      have KA := K7.trans (kA.mono K7.1)
      obtain ⟨hB, eB, kB⟩ := hJA hA q7 _ sd 1 KA (b7.sl.keep kA).int (by omega)
      rw [hj1] at eB
      repeat (first | with_reducible refine wF ?_ | with_reducible refine wg1 rfl ?_ | with_reducible refine wpT ?_ | with_reducible refine wpv ?_ | with_reducible refine wsm ?_ | with_reducible refine wrB ?_ | with_reducible refine wbd (by assumption) ?_ | (with_reducible refine wbd (hal _) ?_) | with_reducible refine wgeqF (by omega) ?_ | rw [kLoop_exit] | rw [laws_FnJoinsMore.after1_se2_3_4_6_7_9_57] | dsimp only | simp only [env_C, env_g, env_lf, env_pick, env_alloc, env_box, env_build, env_buildSlice, env_load, env_store, env_ptr, env_bin, env_un, env_conv, env_make, env_slice, env_fieldAddr, env_field, env_indexAddr, env_index, env_extract, env_len, env_append, env_max, env_min, env_makeMap, env_lookup, env_update])
      exact W.ret rfl

set_option maxHeartbeats 2000000 in
theorem fnTriangleNear_calls (hNe : TriangleNearOk7 g lf) {p : PV} {ys : List Int} {h : PHeap} (N : Nat) (hN : 45 ≤ N) (ha : Arg h p ys) (hlf : 3000 < lf) (ht : TabOk g h) :
    ∃ h', CL g lf N fn_laws_FnTriangleNear [p] h = some (.bool true, h') := by
  obtain ⟨n, rfl⟩ : ∃ n, N = n + 1 := ⟨N - 1, by omega⟩
  apply W.yes
  rw [laws_FnTriangleNear.call_eq]
  unfold laws_FnTriangleNear.main
  simp only [env_C, env_lf, env_bin, env_un, env_extract, env_len]
  have hlenp : lenP Tryd.prog 22 p = some (.int .i64 ys.length) := (ha.1 h (Keep.refl _ _)).len tyB
  by_cases hbig : (1048576 : Int) < (ys.length : Int)
  · repeat (first | with_reducible refine wT ?_ | with_reducible refine wrB ?_ | with_reducible refine wbd (by assumption) ?_ | with_reducible refine wgtrT (by omega) ?_)
    exact W.ret rfl
  obtain ⟨sd, k, h1, e1, k1, hs1, hs8, hk1, hk2⟩ := drawTriangleNear_W g lf n (by omega) ha (by omega)
  have htF := tabF ht k1
  have hb1 : h1.length ≤ h1.length := Nat.le_refl _
  have k0 : Keep h1.length h1 h1 := Keep.refl _ _
  have hal : ∀ h2, CL g lf n fn_laws_alive [] h2 = some (.bool true, h2) := fun h2 => alive_calls g lf n (by omega) h2
  obtain ⟨q2, h2, e2, o2, k2⟩ := hNe n (by omega) sd k (htF _ k0)
  obtain ⟨q3, h3, e3, o3, k3⟩ := specTriangleNear_calls g lf n (by omega) (by omega) h2 sd k
  have K3 := k2.trans (k3.mono k2.1)
  have hnl := nearTL_length sd k
  have o2' := o2.keep k3
  have e4 := sameInts_N g lf n (by omega) o2'.int o3.int (by omega) (by omega)
  rw [decide_eq_true rfl] at e4
  have f2 : Fix h3.length h3 q2 (nearTL sd k) := o2'.int.fix
  obtain ⟨S, rfl⟩ := Int.eq_ofNat_of_zero_le (show 0 ≤ sd by omega)
  have hS8 : S ≤ 8 := by omega
  have hS1 : 1 ≤ S := by omega
  have hmul : S * (S + 1) ≤ 72 := Nat.mul_le_mul hS8 (show S + 1 ≤ 9 by omega)
  obtain ⟨T, hT⟩ : ∃ T, T = S * (S + 1) / 2 := ⟨_, rfl⟩
  have hTc : cellsT S = T := hT.symm
  obtain ⟨M, hM⟩ : ∃ M, M = S * (S + 1) := ⟨_, rfl⟩
  rw [← hM] at hmul hT
  have hadd : (S : Int) + 1 = ((S + 1 : Nat) : Int) := rfl
  have hquo : M / 2 = T := hT.symm
  obtain ⟨Y, hY⟩ : ∃ Y, Y = nearTL (S : Int) k := ⟨_, rfl⟩
  rw [← hY] at f2 hnl
  have hbody : ∀ i (hi : i < Y.length), ∃ J : Nat, Y[i] = (J : Int) ∧ (J : Int) ≠ k ∧ k ∈ nearTL (S : Int) (J : Int) := by
    intro i hi
    have hm := List.getElem_mem hi
    generalize Y[i] = y at hm
    rw [hY] at hm
    unfold nearTL at hm
    split at hm
    · rename_i hc
      rw [Bool.and_eq_true, decide_eq_true_eq, decide_eq_true_eq] at hc
      obtain ⟨⟨_, hS4⟩, hk0, hkT⟩ := hc
      obtain ⟨K, rfl⟩ := Int.eq_ofNat_of_zero_le hk0
      have hS4 : S ≤ 4 := by omega
      have hKT : K < cellsT S := Int.ofNat_lt.1 hkT
      obtain ⟨j, rfl, hj⟩ := (listT_mem (maskT_lt hS4) y).1 hm
      obtain ⟨hn, _⟩ := near_facts hS1 hS4 hKT
      obtain ⟨hjT, hjk, hne⟩ := hn j hj
      refine ⟨j, rfl, fun e => hne (Int.ofNat_inj.1 e), ?_⟩
      unfold nearTL
      rw [if_pos]
      · exact (listT_mem (maskT_lt hS4) _).2 ⟨K, rfl, hjk⟩
      · rw [Bool.and_eq_true, decide_eq_true_eq, decide_eq_true_eq]
        exact ⟨⟨by omega, by omega⟩, by omega, Int.ofNat_lt.2 hjT⟩
    · cases hm
  repeat (first | with_reducible refine wF ?_ | with_reducible refine wnT ?_ | with_reducible refine wx0 ?_ | with_reducible refine wx1 ?_ | with_reducible refine wbd (by assumption) ?_ | with_reducible refine wgtrF (by omega) ?_ | dsimp only)
  refine loopW (fun m st => ∃ (i : Nat) (h4 : PHeap), st = laws_FnTriangleNear.st0 (.int .i64 (S : Int)) (.int .i64 k) q2 (.int .i64 (i : Int)) h4 ∧ i + m = Y.length ∧ Keep h3.length h3 h4) ?_ lf Y.length _ (by omega) ⟨0, h3, rfl, by omega, Keep.refl _ _⟩
  rintro n1 m st ⟨i, h4, rfl, him, k4⟩ next
  have hi4 := f2 _ k4
  have hlq := hi4.len'
  have K4 := K3.trans (k4.mono K3.1)
  rw [laws_FnTriangleNear.body0_eq]
  unfold laws_FnTriangleNear.body0
  simp only [env_C, env_pick, env_load, env_bin, env_un, env_indexAddr, env_len]
  cases m with
  | succ m =>
    have hi : i < Y.length := by omega
    obtain ⟨J, hJ, hJk, hin⟩ := hbody i hi
    obtain ⟨a, ea, la⟩ := hi4.at' hi
    rw [hJ] at la
    obtain ⟨q5, h5, e5, o5, k5⟩ := hNe n (by omega) (S : Int) (J : Int) (htF _ K4)
    have hnl5 := nearTL_length (S : Int) (J : Int)
    have e6 := hasInt_N g lf n (by omega) k o5.int (by omega) (by omega)
    rw [decide_eq_true hin] at e6
    obtain ⟨a', ea', la5⟩ := (f2 _ (k4.trans (k5.mono k4.1))).at' hi
    obtain rfl := Option.some.inj (ea.symm.trans ea')
    rw [hJ] at la5
    repeat (first | with_reducible refine wT ?_ | with_reducible refine wF ?_ | with_reducible refine wg1 rfl ?_ | with_reducible refine wpF ?_ | with_reducible refine wnT ?_ | with_reducible refine wpv ?_ | with_reducible refine wsm ?_ | with_reducible refine wbd (by assumption) ?_ | with_reducible refine wadd1 (by omega) ?_ | with_reducible refine wlssT (by omega) ?_ | with_reducible refine weqlF (by omega) ?_ | dsimp only)
    exact next _ _ (Nat.lt_succ_self m) ⟨i + 1, h5, rfl, by omega, k4.trans (k5.mono k4.1)⟩
  | zero =>
    by_cases hS4 : 4 < S
    · have hY0 : Y.length = 0 := by
        rw [hY]; unfold nearTL
        rw [decide_eq_false (by omega : ¬ ((1 : Int) ≤ (S : Int) ∧ (S : Int) ≤ 4)), Bool.false_and]; rfl
      repeat (first | with_reducible refine wT ?_ | with_reducible refine wF ?_ | with_reducible refine wg1 rfl ?_ | with_reducible refine wg0 rfl ?_ | with_reducible refine wpT ?_ | with_reducible refine wpF ?_ | with_reducible refine wpv ?_ | with_reducible refine wsm ?_ | with_reducible refine wrB ?_ | with_reducible refine wbd (by assumption) ?_ | (with_reducible refine wbd (hal _) ?_) | (with_reducible refine wquo2 (by omega) ?_) | with_reducible refine wadd1 (by omega) ?_ | with_reducible refine wmulN (by omega) ?_ | with_reducible refine wlssF (by omega) ?_ | with_reducible refine wgtrT (by omega) ?_ | with_reducible refine weqlT (by omega) ?_ | rw [kLoop_exit] | rw [laws_FnTriangleNear.after0_se0_3_4_5_6_29] | dsimp only | simp only [env_C, env_g, env_lf, env_pick, env_alloc, env_box, env_build, env_buildSlice, env_load, env_store, env_ptr, env_bin, env_un, env_conv, env_make, env_slice, env_fieldAddr, env_field, env_indexAddr, env_index, env_extract, env_len, env_append, env_max, env_min, env_makeMap, env_lookup, env_update])
      exact W.ret rfl
    by_cases hk0 : k < 0
    · have hY0 : Y.length = 0 := by
        rw [hY]; unfold nearTL
        rw [decide_eq_false (by omega : ¬ ((0 : Int) ≤ k ∧ k < (cellsT (S : Int).toNat : Int))), Bool.and_false]; rfl
      repeat (first | with_reducible refine wT ?_ | with_reducible refine wF ?_ | with_reducible refine wg1 rfl ?_ | with_reducible refine wg0 rfl ?_ | with_reducible refine wpT ?_ | with_reducible refine wpF ?_ | with_reducible refine wpv ?_ | with_reducible refine wsm ?_ | with_reducible refine wrB ?_ | with_reducible refine wbd (by assumption) ?_ | (with_reducible refine wbd (hal _) ?_) | (with_reducible refine wquo2 (by omega) ?_) | with_reducible refine wadd1 (by omega) ?_ | with_reducible refine wmulN (by omega) ?_ | with_reducible refine wlssT (by omega) ?_ | with_reducible refine wlssF (by omega) ?_ | with_reducible refine wgtrF (by omega) ?_ | with_reducible refine weqlT (by omega) ?_ | rw [kLoop_exit] | rw [laws_FnTriangleNear.after0_se0_3_4_5_6_29] | dsimp only | simp only [env_C, env_g, env_lf, env_pick, env_alloc, env_box, env_build, env_buildSlice, env_load, env_store, env_ptr, env_bin, env_un, env_conv, env_make, env_slice, env_fieldAddr, env_field, env_indexAddr, env_index, env_extract, env_len, env_append, env_max, env_min, env_makeMap, env_lookup, env_update])
      exact W.ret rfl
    obtain ⟨K, rfl⟩ := Int.eq_ofNat_of_zero_le (show 0 ≤ k by omega)
    by_cases hKT : T ≤ K
    · have hY0 : Y.length = 0 := by
        rw [hY]; unfold nearTL
        rw [Int.toNat_natCast, hTc, decide_eq_false (by omega : ¬ ((0 : Int) ≤ (K : Int) ∧ (K : Int) < (T : Int))), Bool.and_false]; rfl
      repeat (first | with_reducible refine wT ?_ | with_reducible refine wF ?_ | with_reducible refine wg1 rfl ?_ | with_reducible refine wpT ?_ | with_reducible refine wpF ?_ | with_reducible refine wpv ?_ | with_reducible refine wsm ?_ | with_reducible refine wrB ?_ | with_reducible refine wbd (by assumption) ?_ | (with_reducible refine wbd (hal _) ?_) | (with_reducible refine wquo2 (by omega) ?_) | with_reducible refine wadd1 (by omega) ?_ | with_reducible refine wmulN (by omega) ?_ | with_reducible refine wlssF (by omega) ?_ | with_reducible refine wgtrF (by omega) ?_ | with_reducible refine wgeqT (by omega) ?_ | with_reducible refine weqlT (by omega) ?_ | rw [kLoop_exit] | rw [laws_FnTriangleNear.after0_se0_3_4_5_6_29] | dsimp only | simp only [env_C, env_g, env_lf, env_pick, env_alloc, env_box, env_build, env_buildSlice, env_load, env_store, env_ptr, env_bin, env_un, env_conv, env_make, env_slice, env_fieldAddr, env_field, env_indexAddr, env_index, env_extract, env_len, env_append, env_max, env_min, env_makeMap, env_lookup, env_update])
      exact W.ret rfl
    have hS4' : S ≤ 4 := by omega
    obtain ⟨_, n6, n4, n2⟩ := near_facts hS1 hS4' (show K < cellsT S by omega)
    have hYe : Y = listT (maskT S K) := by
      rw [hY]; unfold nearTL
      rw [Int.toNat_natCast, hTc, decide_eq_true (by omega : (1 : Int) ≤ (S : Int) ∧ (S : Int) ≤ 4), decide_eq_true (by omega : (0 : Int) ≤ (K : Int) ∧ (K : Int) < (T : Int))]; rfl
    have hYl : Y.length = popT (maskT S K) := by rw [hYe, listT_length]
    rw [← hYl] at n6 n4 n2
    have hasc : CL g lf n fn_laws_ascend [q2] h4 = some (.bool true, h4) := ascend_calls g lf n (by omega) hi4 (hYe ▸ listT_sorted (maskT S K)) (by omega) (by omega)
    have hTS : S ≤ T := by
      rw [← hTc]
      have : S = 1 ∨ S = 2 ∨ S = 3 ∨ S = 4 := by omega
      rcases this with rfl | rfl | rfl | rfl <;> decide
    have hT1 : 1 ≤ T := by omega
    have hT72 : T ≤ 72 := by omega
    have hcb : cornerB S K = (decide (K = 0) || decide (K + 1 = T) || decide (K + S = T)) := by
      unfold cornerB
      rw [hTc]; rfl
    have hw1 : -4611686018427387904 ≤ (T : Int) - 1 ∧ (T : Int) - 1 ≤ 4611686018427387904 := by omega
    have hw2 : -4611686018427387904 ≤ (T : Int) - (S : Int) ∧ (T : Int) - (S : Int) ≤ 4611686018427387904 := by omega
    by_cases c0 : K = 0
    · have hl2 := n2 (by rw [hcb, decide_eq_true c0]; rfl)
      by_cases hSe : S = 1
      · repeat (first | with_reducible refine wF ?_ | with_reducible refine wg1 rfl ?_ | with_reducible refine wg0 rfl ?_ | with_reducible refine wpT ?_ | with_reducible refine wpF ?_ | with_reducible refine wnT ?_ | with_reducible refine wpv ?_ | with_reducible refine wsm ?_ | with_reducible refine wrB ?_ | with_reducible refine wbd (by assumption) ?_ | (with_reducible refine wbd (hal _) ?_) | (with_reducible refine wquo2 (by omega) ?_) | with_reducible refine wadd1 (by omega) ?_ | with_reducible refine wmulN (by omega) ?_ | with_reducible refine wlssF (by omega) ?_ | with_reducible refine wleqT (by omega) ?_ | with_reducible refine wgtrF (by omega) ?_ | with_reducible refine wgeqF (by omega) ?_ | with_reducible refine weqlT (by omega) ?_ | rw [kLoop_exit] | rw [laws_FnTriangleNear.after0_se0_3_4_5_6_29] | dsimp only | simp only [env_C, env_g, env_lf, env_pick, env_alloc, env_box, env_build, env_buildSlice, env_load, env_store, env_ptr, env_bin, env_un, env_conv, env_make, env_slice, env_fieldAddr, env_field, env_indexAddr, env_index, env_extract, env_len, env_append, env_max, env_min, env_makeMap, env_lookup, env_update])
        exact W.ret rfl
      · have : Y.length = 2 := hl2.resolve_left hSe
        repeat (first | with_reducible refine wF ?_ | with_reducible refine wg1 rfl ?_ | with_reducible refine wg0 rfl ?_ | with_reducible refine wpT ?_ | with_reducible refine wpF ?_ | with_reducible refine wnT ?_ | with_reducible refine wpv ?_ | with_reducible refine wsm ?_ | with_reducible refine wrB ?_ | with_reducible refine wbd (by assumption) ?_ | (with_reducible refine wbd (hal _) ?_) | (with_reducible refine wquo2 (by omega) ?_) | with_reducible refine wadd1 (by omega) ?_ | with_reducible refine wmulN (by omega) ?_ | with_reducible refine wlssF (by omega) ?_ | with_reducible refine wleqT (by omega) ?_ | with_reducible refine wgtrF (by omega) ?_ | with_reducible refine wgeqF (by omega) ?_ | with_reducible refine weqlT (by omega) ?_ | with_reducible refine weqlF (by omega) ?_ | rw [kLoop_exit] | rw [laws_FnTriangleNear.after0_se0_3_4_5_6_29] | dsimp only | simp only [env_C, env_g, env_lf, env_pick, env_alloc, env_box, env_build, env_buildSlice, env_load, env_store, env_ptr, env_bin, env_un, env_conv, env_make, env_slice, env_fieldAddr, env_field, env_indexAddr, env_index, env_extract, env_len, env_append, env_max, env_min, env_makeMap, env_lookup, env_update])
        exact W.ret rfl
    by_cases c1 : K + 1 = T
    · have hl2 := n2 (by rw [hcb, decide_eq_true c1]; simp)
      by_cases hSe : S = 1
      · repeat (first | with_reducible refine wF ?_ | with_reducible refine wg1 rfl ?_ | with_reducible refine wg0 rfl ?_ | with_reducible refine wpT ?_ | with_reducible refine wpF ?_ | with_reducible refine wnT ?_ | with_reducible refine wpv ?_ | with_reducible refine wsm ?_ | with_reducible refine wrB ?_ | with_reducible refine wbd (by assumption) ?_ | (with_reducible refine wbd (hal _) ?_) | (with_reducible refine wquo2 (by omega) ?_) | with_reducible refine wadd1 (by omega) ?_ | with_reducible refine wsub1 (by omega) (by omega) ?_ | with_reducible refine wmulN (by omega) ?_ | with_reducible refine wlssF (by omega) ?_ | with_reducible refine wleqT (by omega) ?_ | with_reducible refine wgtrF (by omega) ?_ | with_reducible refine wgeqF (by omega) ?_ | with_reducible refine weqlT (by omega) ?_ | with_reducible refine weqlF (by omega) ?_ | rw [kLoop_exit] | rw [laws_FnTriangleNear.after0_se0_3_4_5_6_29] | dsimp only | simp only [env_C, env_g, env_lf, env_pick, env_alloc, env_box, env_build, env_buildSlice, env_load, env_store, env_ptr, env_bin, env_un, env_conv, env_make, env_slice, env_fieldAddr, env_field, env_indexAddr, env_index, env_extract, env_len, env_append, env_max, env_min, env_makeMap, env_lookup, env_update])
        exact W.ret rfl
      · have : Y.length = 2 := hl2.resolve_left hSe
        repeat (first | with_reducible refine wF ?_ | with_reducible refine wg1 rfl ?_ | with_reducible refine wg0 rfl ?_ | with_reducible refine wpT ?_ | with_reducible refine wpF ?_ | with_reducible refine wnT ?_ | with_reducible refine wpv ?_ | with_reducible refine wsm ?_ | with_reducible refine wrB ?_ | with_reducible refine wbd (by assumption) ?_ | (with_reducible refine wbd (hal _) ?_) | (with_reducible refine wquo2 (by omega) ?_) | with_reducible refine wadd1 (by omega) ?_ | with_reducible refine wsub1 (by omega) (by omega) ?_ | with_reducible refine wmulN (by omega) ?_ | with_reducible refine wlssF (by omega) ?_ | with_reducible refine wleqT (by omega) ?_ | with_reducible refine wgtrF (by omega) ?_ | with_reducible refine wgeqF (by omega) ?_ | with_reducible refine weqlT (by omega) ?_ | with_reducible refine weqlF (by omega) ?_ | rw [kLoop_exit] | rw [laws_FnTriangleNear.after0_se0_3_4_5_6_29] | dsimp only | simp only [env_C, env_g, env_lf, env_pick, env_alloc, env_box, env_build, env_buildSlice, env_load, env_store, env_ptr, env_bin, env_un, env_conv, env_make, env_slice, env_fieldAddr, env_field, env_indexAddr, env_index, env_extract, env_len, env_append, env_max, env_min, env_makeMap, env_lookup, env_update])
        exact W.ret rfl
    by_cases c2 : K + S = T
    · have hl2 := n2 (by rw [hcb, decide_eq_true c2]; simp)
      by_cases hSe : S = 1
      · exact absurd (show K + 1 = T by omega) c1
      · have : Y.length = 2 := hl2.resolve_left hSe
        repeat (first | with_reducible refine wF ?_ | with_reducible refine wg1 rfl ?_ | with_reducible refine wg0 rfl ?_ | with_reducible refine wpT ?_ | with_reducible refine wpF ?_ | with_reducible refine wnT ?_ | with_reducible refine wpv ?_ | with_reducible refine wsm ?_ | with_reducible refine wrB ?_ | with_reducible refine wbd (by assumption) ?_ | (with_reducible refine wbd (hal _) ?_) | (with_reducible refine wquo2 (by omega) ?_) | with_reducible refine wadd1 (by omega) ?_ | with_reducible refine wsub1 (by omega) (by omega) ?_ | with_reducible refine wmulN (by omega) ?_ | with_reducible refine wlssF (by omega) ?_ | with_reducible refine wleqT (by omega) ?_ | with_reducible refine wgtrF (by omega) ?_ | with_reducible refine wgeqF (by omega) ?_ | with_reducible refine weqlT (by omega) ?_ | with_reducible refine weqlF (by omega) ?_ | with_reducible refine wsub (by omega) ?_ | rw [kLoop_exit] | rw [laws_FnTriangleNear.after0_se0_3_4_5_6_29] | dsimp only | simp only [env_C, env_g, env_lf, env_pick, env_alloc, env_box, env_build, env_buildSlice, env_load, env_store, env_ptr, env_bin, env_un, env_conv, env_make, env_slice, env_fieldAddr, env_field, env_indexAddr, env_index, env_extract, env_len, env_append, env_max, env_min, env_makeMap, env_lookup, env_update])
        exact W.ret rfl
    have hl4 := n4 (by rw [hcb, decide_eq_false c0, decide_eq_false c1, decide_eq_false c2]; rfl)
    repeat (first | with_reducible refine wF ?_ | with_reducible refine wg1 rfl ?_ | with_reducible refine wg0 rfl ?_ | with_reducible refine wpT ?_ | with_reducible refine wpF ?_ | with_reducible refine wnF ?_ | with_reducible refine wpv ?_ | with_reducible refine wsm ?_ | with_reducible refine wrB ?_ | with_reducible refine wbd (by assumption) ?_ | (with_reducible refine wbd (hal _) ?_) | (with_reducible refine wquo2 (by omega) ?_) | with_reducible refine wadd1 (by omega) ?_ | with_reducible refine wsub1 (by omega) (by omega) ?_ | with_reducible refine wmulN (by omega) ?_ | with_reducible refine wlssF (by omega) ?_ | with_reducible refine wleqT (by omega) ?_ | with_reducible refine wgtrF (by omega) ?_ | with_reducible refine wgeqT (by omega) ?_ | with_reducible refine wgeqF (by omega) ?_ | with_reducible refine weqlF (by omega) ?_ | with_reducible refine wsub (by omega) ?_ | rw [kLoop_exit] | rw [laws_FnTriangleNear.after0_se0_3_4_5_6_29] | dsimp only | simp only [env_C, env_g, env_lf, env_pick, env_alloc, env_box, env_build, env_buildSlice, env_load, env_store, env_ptr, env_bin, env_un, env_conv, env_make, env_slice, env_fieldAddr, env_field, env_indexAddr, env_index, env_extract, env_len, env_append, env_max, env_min, env_makeMap, env_lookup, env_update])
    exact W.ret rfl

theorem fnTriangleWins_calls (hWn : TriangleWinsOk7 g lf) {p : PV} {ys : List Int} {h : PHeap} (N : Nat) (hN : 45 ≤ N) (ha : Arg h p ys) (hlf : 3000 < lf) (ht : TabOk g h) :
    ∃ h', CL g lf N fn_laws_FnTriangleWins [p] h = some (.bool true, h') := by
  obtain ⟨n, rfl⟩ : ∃ n, N = n + 1 := ⟨N - 1, by omega⟩
  apply W.yes
  rw [laws_FnTriangleWins.call_eq]
  unfold laws_FnTriangleWins.main
  simp only [env_C, env_lf, env_pick, env_bin, env_extract, env_len]
  have hlenp : lenP Tryd.prog 22 p = some (.int .i64 ys.length) := (ha.1 h (Keep.refl _ _)).len tyB
  by_cases hbig : (1048576 : Int) < (ys.length : Int)
  · repeat (first | with_reducible refine wT ?_ | with_reducible refine wrB ?_ | with_reducible refine wbd (by assumption) ?_ | with_reducible refine wgtrT (by omega) ?_)
    exact W.ret rfl
  obtain ⟨sd, f, h1, e1, k1, hs1, hs8, hf1, hf2⟩ := drawTriangleWins_W g lf n (by omega) ha (by omega)
  have htF := tabF ht k1
  have hb1 : h1.length ≤ h1.length := Nat.le_refl _
  have k0 : Keep h1.length h1 h1 := Keep.refl _ _
  have hal : ∀ h2, CL g lf n fn_laws_alive [] h2 = some (.bool true, h2) := fun h2 => alive_calls g lf n (by omega) h2
  obtain ⟨h2, e2, k2⟩ := hWn n (by omega) sd f (htF _ k0)
  obtain ⟨h3, e3, k3⟩ := specTriangleWins_calls g lf n (by omega) (by omega) h2 sd f
  have K3 := k2.trans (k3.mono k2.1)
  cases hv : decide (1 ≤ sd ∧ sd ≤ 4) && decide (0 ≤ f ∧ f ≤ (cellsT sd.toNat : Int)) with
  | false =>
    have hwv : winsL sd f = -1 := by unfold winsL; rw [hv]; rfl
    rw [hwv] at e2 e3
    repeat (first | with_reducible refine wT ?_ | with_reducible refine wF ?_ | with_reducible refine wg1 rfl ?_ | with_reducible refine wpT ?_ | with_reducible refine wrB ?_ | with_reducible refine wx0 ?_ | with_reducible refine wx1 ?_ | with_reducible refine wbd (by assumption) ?_ | (with_reducible refine wbd (hal _) ?_) | with_reducible refine wlssT (by omega) ?_ | with_reducible refine wgtrF (by omega) ?_ | with_reducible refine weqlT (by omega) ?_ | with_reducible refine wneqF (by omega) ?_ | dsimp only)
    exact W.ret rfl
  | true =>
    have hwv : winsL sd f = (winsT sd.toNat f.toNat : Int) := by unfold winsL; rw [hv]; rfl
    rw [Bool.and_eq_true, decide_eq_true_eq, decide_eq_true_eq] at hv
    obtain ⟨⟨_, hs4⟩, hf0, hfc⟩ := hv
    obtain ⟨S, rfl⟩ := Int.eq_ofNat_of_zero_le (show 0 ≤ sd by omega)
    obtain ⟨F, rfl⟩ := Int.eq_ofNat_of_zero_le hf0
    have hS1 : 1 ≤ S := by omega
    have hS4 : S ≤ 4 := by omega
    have hFT : F ≤ cellsT S := Int.ofNat_le.1 hfc
    have hc10 := cellsT_le hS4
    have hmul : S * (S + 1) ≤ 20 := Nat.mul_le_mul hS4 (show S + 1 ≤ 5 by omega)
    obtain ⟨wv, w0⟩ := wins_at hS1 hS4 hFT
    have hok := okW_at hS4 hFT
    have hwv : winsL (S : Int) (F : Int) = (winsT S F : Int) := hwv
    have hb1 := winsT_le (f := F) hS4
    have hb2 := winsT_le (f := cellsT S - F) hS4
    have hwo : winsL (S : Int) ((cellsT S - F : Nat) : Int) = (winsT S (cellsT S - F) : Int) := by
      unfold winsL
      rw [Int.toNat_natCast, Int.toNat_natCast, decide_eq_true (by omega : (1 : Int) ≤ (S : Int) ∧ (S : Int) ≤ 4), decide_eq_true (by omega : (0 : Int) ≤ ((cellsT S - F : Nat) : Int) ∧ ((cellsT S - F : Nat) : Int) ≤ (cellsT S : Int))]; rfl
    obtain ⟨T, hT⟩ : ∃ T, T = cellsT S := ⟨_, rfl⟩
    rw [← hT] at hFT hc10 wv hok hwo hb2
    obtain ⟨M, hM⟩ : ∃ M, M = S * (S + 1) := ⟨_, rfl⟩
    have hquo : M / 2 = T := by rw [hT, hM]; rfl
    rw [← hM] at hmul
    obtain ⟨w1, hw1⟩ : ∃ w1, w1 = winsT S F := ⟨_, rfl⟩
    obtain ⟨w2, hw2⟩ : ∃ w2, w2 = winsT S (T - F) := ⟨_, rfl⟩
    rw [← hw1] at wv w0 hwv hb1
    rw [← hw2] at wv hwo hb2
    rw [hwv] at e2 e3
    have hadd : (S : Int) + 1 = ((S + 1 : Nat) : Int) := rfl
    repeat (first | with_reducible refine wF ?_ | with_reducible refine wx0 ?_ | with_reducible refine wx1 ?_ | with_reducible refine wbd (by assumption) ?_ | (rw [← hM]) | (with_reducible refine wquo2 (by omega) ?_) | (rw [hquo]) | with_reducible refine wadd1 (by omega) ?_ | with_reducible refine wmulN (by omega) ?_ | with_reducible refine wlssF (by omega) ?_ | with_reducible refine wgtrF (by omega) ?_ | with_reducible refine wneqF (by omega) ?_ | dsimp only)
    refine loopW (fun m st => ∃ (k w : Nat), st = laws_FnTriangleWins.st0 (.int .i64 (S : Int)) (.int .i64 (F : Int)) (.int .i64 (w1 : Int)) (.int .i64 (T : Int)) (.int .i64 (w : Int)) (.int .i64 (k : Int)) h3 ∧ k + m = F + 1 ∧ 1 ≤ k ∧ okW T F m k w = true ∧ waysF T F m k w = waysT T F) ?_ lf F _ (by omega) ⟨1, 1, rfl, by omega, Nat.le_refl _, hok, rfl⟩
    rintro n1 m st ⟨k, w, rfl, hkm, hk1, hkw, hkv⟩ next
    rw [laws_FnTriangleWins.body0_eq]
    unfold laws_FnTriangleWins.body0
    simp only [env_bin]
    cases m with
    | succ m =>
      rw [okW, Bool.and_eq_true, decide_eq_true_eq] at hkw
      rw [waysF] at hkv
      have hm : w * (T - F + k) ≤ 1000 * 21 := Nat.mul_le_mul hkw.1 (by omega)
      obtain ⟨Z, hZ⟩ : ∃ Z, Z = T - F := ⟨_, rfl⟩
      rw [← hZ] at hm hkw hkv
      repeat (first | with_reducible refine wT ?_ | (with_reducible refine wsubN (by omega) (by omega) ?_) | (rw [← hZ]) | with_reducible refine wadd1 (by omega) ?_ | with_reducible refine waddN (by omega) ?_ | with_reducible refine wmulN (by omega) ?_ | with_reducible refine wquoN (by omega) (by omega) ?_ | with_reducible refine wleqT (by omega) ?_)
      exact next _ _ (Nat.lt_succ_self m) ⟨k + 1, _, rfl, by omega, by omega, hkw.2, hkv⟩
    | zero =>
      rw [waysF] at hkv
      obtain ⟨h5, e5, k5⟩ := hWn n (by omega) (S : Int) ((T - F : Nat) : Int) (htF _ K3)
      rw [hwo] at e5
      have hsum : w1 + w2 = w := by omega
      rcases w0 with h | h
      · repeat (first | with_reducible refine wF ?_ | with_reducible refine wg1 rfl ?_ | with_reducible refine wg0 rfl ?_ | with_reducible refine wpT ?_ | with_reducible refine wpv ?_ | with_reducible refine wsm ?_ | with_reducible refine wrB ?_ | with_reducible refine wbd (by assumption) ?_ | (with_reducible refine wsubN (by omega) (by omega) ?_) | with_reducible refine waddN (by omega) ?_ | with_reducible refine wleqF (by omega) ?_ | with_reducible refine wgeqT (by omega) ?_ | with_reducible refine weqlT (by omega) ?_ | rw [kLoop_exit] | rw [laws_FnTriangleWins.after0_se0_3_4_5_6_7_8_39] | dsimp only | simp only [env_C, env_g, env_lf, env_pick, env_alloc, env_box, env_build, env_buildSlice, env_load, env_store, env_ptr, env_bin, env_un, env_conv, env_make, env_slice, env_fieldAddr, env_field, env_indexAddr, env_index, env_extract, env_len, env_append, env_max, env_min, env_makeMap, env_lookup, env_update])
        exact W.ret rfl
      · by_cases hFS : S ≤ F
        · repeat (first | with_reducible refine wF ?_ | with_reducible refine wg1 rfl ?_ | with_reducible refine wg0 rfl ?_ | with_reducible refine wpT ?_ | with_reducible refine wpv ?_ | with_reducible refine wsm ?_ | with_reducible refine wrB ?_ | with_reducible refine wbd (by assumption) ?_ | (with_reducible refine wsubN (by omega) (by omega) ?_) | with_reducible refine waddN (by omega) ?_ | with_reducible refine wleqF (by omega) ?_ | with_reducible refine wgeqT (by omega) ?_ | with_reducible refine weqlT (by omega) ?_ | rw [kLoop_exit] | rw [laws_FnTriangleWins.after0_se0_3_4_5_6_7_8_39] | dsimp only | simp only [env_C, env_g, env_lf, env_pick, env_alloc, env_box, env_build, env_buildSlice, env_load, env_store, env_ptr, env_bin, env_un, env_conv, env_make, env_slice, env_fieldAddr, env_field, env_indexAddr, env_index, env_extract, env_len, env_append, env_max, env_min, env_makeMap, env_lookup, env_update])
          exact W.ret rfl
        · repeat (first | with_reducible refine wF ?_ | with_reducible refine wg1 rfl ?_ | with_reducible refine wpT ?_ | with_reducible refine wpF ?_ | with_reducible refine wpv ?_ | with_reducible refine wsm ?_ | with_reducible refine wrB ?_ | with_reducible refine wbd (by assumption) ?_ | (with_reducible refine wsubN (by omega) (by omega) ?_) | with_reducible refine waddN (by omega) ?_ | with_reducible refine wleqF (by omega) ?_ | with_reducible refine wgeqF (by omega) ?_ | with_reducible refine weqlT (by omega) ?_ | rw [kLoop_exit] | rw [laws_FnTriangleWins.after0_se0_3_4_5_6_7_8_39] | dsimp only | simp only [env_C, env_g, env_lf, env_pick, env_alloc, env_box, env_build, env_buildSlice, env_load, env_store, env_ptr, env_bin, env_un, env_conv, env_make, env_slice, env_fieldAddr, env_field, env_indexAddr, env_index, env_extract, env_len, env_append, env_max, env_min, env_makeMap, env_lookup, env_update])
          exact W.ret rfl

theorem fnTriangleHalf_calls (hWn : TriangleWinsOk7 g lf) {p : PV} {ys : List Int} {h : PHeap} (N : Nat) (hN : 45 ≤ N) (ha : Arg h p ys) (hlf : 3000 < lf) (ht : TabOk g h) :
    ∃ h', CL g lf N fn_laws_FnTriangleHalf [p] h = some (.bool true, h') := by
  obtain ⟨n, rfl⟩ : ∃ n, N = n + 1 := ⟨N - 1, by omega⟩
  apply W.yes
  rw [laws_FnTriangleHalf.call_eq]
  unfold laws_FnTriangleHalf.main
  simp only [env_C, env_lf, env_pick, env_bin, env_extract, env_len]
  have hlenp : lenP Tryd.prog 22 p = some (.int .i64 ys.length) := (ha.1 h (Keep.refl _ _)).len tyB
  by_cases hbig : (1048576 : Int) < (ys.length : Int)
  · repeat (first | with_reducible refine wT ?_ | with_reducible refine wrB ?_ | with_reducible refine wbd (by assumption) ?_ | with_reducible refine wgtrT (by omega) ?_)
    exact W.ret rfl
  obtain ⟨sd, f, h1, e1, k1, hs1, hs8, hf1, hf2⟩ := drawTriangleWins_W g lf n (by omega) ha (by omega)
  have htF := tabF ht k1
  have hb1 : h1.length ≤ h1.length := Nat.le_refl _
  have k0 : Keep h1.length h1 h1 := Keep.refl _ _
  have hal : ∀ h2, CL g lf n fn_laws_alive [] h2 = some (.bool true, h2) := fun h2 => alive_calls g lf n (by omega) h2
  by_cases hs4 : 4 < sd
  · obtain ⟨h2, e2, k2⟩ := hWn n (by omega) sd 0 (htF _ k0)
    have hwv : winsL sd 0 = -1 := by
      unfold winsL; rw [decide_eq_false (by omega : ¬ ((1 : Int) ≤ sd ∧ sd ≤ 4)), Bool.false_and]; rfl
    rw [hwv] at e2
    repeat (first | with_reducible refine wT ?_ | with_reducible refine wF ?_ | with_reducible refine wg1 rfl ?_ | with_reducible refine wpT ?_ | with_reducible refine wpF ?_ | with_reducible refine wpv ?_ | with_reducible refine wsm ?_ | with_reducible refine wrB ?_ | with_reducible refine wx0 ?_ | with_reducible refine wx1 ?_ | with_reducible refine wbd (by assumption) ?_ | (with_reducible refine wbd (hal _) ?_) | with_reducible refine wlssF (by omega) ?_ | with_reducible refine wgtrT (by omega) ?_ | with_reducible refine wgtrF (by omega) ?_ | with_reducible refine weqlT (by omega) ?_ | dsimp only)
    exact W.ret rfl
  obtain ⟨S, rfl⟩ := Int.eq_ofNat_of_zero_le (show 0 ≤ sd by omega)
  have hS1 : 1 ≤ S := by omega
  have hS4 : S ≤ 4 := by omega
  have hc10 := cellsT_le hS4
  have hmul : S * (S + 1) ≤ 20 := Nat.mul_le_mul hS4 (show S + 1 ≤ 5 by omega)
  obtain ⟨hh, hT1, hT0⟩ := half_at hS1 hS4
  have hWI : ∀ h2 (k : Nat), Keep h1.length h1 h2 → k ≤ cellsT S → ∃ h', CL g lf n fn_impl_TriangleWins [.int .i64 (S : Int), .int .i64 (k : Int)] h2 = some (.int .i64 ((winsT S k : Nat) : Int), h') ∧ Keep h2.length h2 h' := fun h2 k k2 hk => by
    have := hWn n (by omega) (S : Int) (k : Int) (htF _ k2)
    have hv : winsL (S : Int) (k : Int) = (winsT S k : Int) := by
      unfold winsL
      rw [Int.toNat_natCast, Int.toNat_natCast, decide_eq_true (by omega : (1 : Int) ≤ (S : Int) ∧ (S : Int) ≤ 4), decide_eq_true (by omega : (0 : Int) ≤ (k : Int) ∧ (k : Int) ≤ (cellsT S : Int))]; rfl
    rw [hv] at this
    exact this
  have hwb : ∀ k, winsT S k ≤ 1024 := fun k => winsT_le hS4
  obtain ⟨T, hT⟩ : ∃ T, T = cellsT S := ⟨_, rfl⟩
  rw [← hT] at hc10 hh hT1 hWI
  obtain ⟨M, hM⟩ : ∃ M, M = S * (S + 1) := ⟨_, rfl⟩
  have hquo : M / 2 = T := by rw [hT, hM]; rfl
  rw [← hM] at hmul
  have hadd : (S : Int) + 1 = ((S + 1 : Nat) : Int) := rfl
  have h2T : 1 <<< T = 2 ^ T := Nat.one_shiftLeft _
  repeat (first | with_reducible refine wF ?_ | with_reducible refine wg1 rfl ?_ | with_reducible refine wpF ?_ | with_reducible refine wpv ?_ | with_reducible refine wsm ?_ | with_reducible refine wx0 ?_ | with_reducible refine wx1 ?_ | with_reducible refine wbd (by assumption) ?_ | (rw [← hM]) | (with_reducible refine wquo2 (by omega) ?_) | (rw [hquo]) | with_reducible refine wadd1 (by omega) ?_ | with_reducible refine wmulN (by omega) ?_ | with_reducible refine wlssF (by omega) ?_ | with_reducible refine wgtrF (by omega) ?_ | dsimp only)
  refine loopW (fun m st => ∃ (k w : Nat) (h2 : PHeap), st = laws_FnTriangleHalf.st0 (.int .i64 (S : Int)) (.int .i64 (T : Int)) (.int .i64 (w : Int)) (.int .i64 (k : Int)) h2 ∧ k + m = T + 1 ∧ w ≤ 1024 * k ∧ w = (List.range k).foldl (fun a j => a + winsT S j) 0 ∧ Keep h1.length h1 h2) ?_ lf (T + 1) _ (by omega) ⟨0, 0, h1, rfl, by omega, Nat.le_refl _, rfl, k0⟩
  rintro n1 m st ⟨k, w, h2, rfl, hkm, hwk, hw, k2⟩ next
  rw [laws_FnTriangleHalf.body0_eq]
  unfold laws_FnTriangleHalf.body0
  simp only [env_C, env_bin]
  cases m with
  | succ m =>
    obtain ⟨h3, e3, k3⟩ := hWI h2 k k2 (by omega)
    have hk1024 := hwb k
    obtain ⟨x, hx⟩ : ∃ x, x = winsT S k := ⟨_, rfl⟩
    rw [← hx] at e3 hk1024
    repeat (first | with_reducible refine wT ?_ | with_reducible refine wbd (by assumption) ?_ | with_reducible refine wadd1 (by omega) ?_ | with_reducible refine waddN (by omega) ?_ | with_reducible refine wleqT (by omega) ?_ | dsimp only)
    exact next _ _ (Nat.lt_succ_self m) ⟨k + 1, w + x, h3, rfl, by omega, by omega, by rw [List.range_succ, List.foldl_append, ← hw, hx]; rfl, k2.trans (k3.mono k2.1)⟩
  | zero =>
    obtain rfl : k = T + 1 := by omega
    obtain ⟨h3, e3, k3⟩ := hWI h2 T k2 (Nat.le_refl _)
    have K3 := k2.trans (k3.mono k2.1)
    obtain ⟨h4, e4, k4⟩ : ∃ h', CL g lf n fn_impl_TriangleWins [.int .i64 (S : Int), .int .i64 0] h3 = some (.int .i64 0, h') ∧ Keep h3.length h3 h' := by
      have := hWI h3 0 K3 (Nat.zero_le _)
      rw [hT0] at this
      exact this
    rw [hT1] at e3
    rw [← hw, ← h2T] at hh
    have hm2 : -4611686018427387904 ≤ (2 : Int) * (w : Int) ∧ (2 : Int) * (w : Int) ≤ 4611686018427387904 := by omega
    repeat (first | with_reducible refine wF ?_ | with_reducible refine wg1 rfl ?_ | with_reducible refine wpT ?_ | with_reducible refine wpv ?_ | with_reducible refine wsm ?_ | with_reducible refine wrB ?_ | with_reducible refine wbd (by assumption) ?_ | (with_reducible refine wbd (hal _) ?_) | (with_reducible refine wmul hm2 ?_) | (with_reducible refine wshl (by omega) ?_) | (with_reducible refine weqlT (by omega) ?_) | with_reducible refine wleqF (by omega) ?_ | rw [kLoop_exit] | rw [laws_FnTriangleHalf.after0_se0_3_5_6_7_35] | dsimp only | simp only [env_C, env_g, env_lf, env_pick, env_alloc, env_box, env_build, env_buildSlice, env_load, env_store, env_ptr, env_bin, env_un, env_conv, env_make, env_slice, env_fieldAddr, env_field, env_indexAddr, env_index, env_extract, env_len, env_append, env_max, env_min, env_makeMap, env_lookup, env_update])
    exact W.ret rfl

end Go.Proofs.YtlefknibddkjpaaDoor

/- The program's chapter 2: Joins, GapOf, GroupOf, Filled and GapCells compute what the model's do. -/
set_option maxRecDepth 20000
namespace Go.Proofs.YtlefknibddkjpaaDoor
open Go Go.Ip G

variable (g : Nat → PV) (lf n : Nat)

end Go.Proofs.YtlefknibddkjpaaDoor

/- The program's chapter 7: cells and places of triangles; full, shrunk and turned triangles, the last cell. -/
set_option maxRecDepth 20000
namespace Go.Proofs.YtlefknibddkjpaaDoor
open Go Go.Ip G

theorem placeT_all : ((List.range 10).all fun k => (List.range 4).all fun r => !(decide (cellsT r ≤ k) && decide (k < cellsT (r + 1))) || (rowT k == r && plT k == k - cellsT r)) = true := by kernel_rfl
theorem place_at {k r : Nat} (hk : k < 10) (hr : r < 4) (h1 : cellsT r ≤ k) (h2 : k < cellsT (r + 1)) : rowT k = r ∧ plT k = k - cellsT r := by
  have h := List.all_eq_true.1 (List.all_eq_true.1 placeT_all k (List.mem_range.2 hk)) r (List.mem_range.2 hr)
  rw [decide_eq_true h1, decide_eq_true h2] at h
  simpa using h
theorem wsubK {Q : PV → PHeap → Prop} {x y : Nat} {P : Program} {t : TypeId} {f : PV → Res} (h : y ≤ x) (h2 : x < 4611686018427387904) (hf : W (f (.int .i64 ((x - y : Nat) : Int))) Q) : W ((binP P .sub t (.int .i64 (x : Int)) (.int .i64 (y : Int))).bind f) Q :=
  wbd (by rw [bin_sub, wr (by omega), show (x : Int) - (y : Int) = ((x - y : Nat) : Int) by omega]) hf
theorem set_rep {Z : List Int} {m k : Nat} {x : Int} (h : Z.length = k) : (Z ++ List.replicate (m + 1) 0).set k x = (Z ++ [x]) ++ List.replicate m 0 := by
  subst h; rw [List.set_append_right _ _ (Nat.le_refl _), Nat.sub_self, List.replicate_succ, List.set_cons_zero, List.append_assoc]; rfl
theorem most_two {a b c : Bool} : (if (if b = true then 1 else 2 : Int) = (if c = true then 1 else 2) then (if b = true then 1 else 2) else (if a = true then 1 else 2 : Int)) = if twoOf a b c = true then 1 else 2 := by
  cases a <;> cases b <;> cases c <;> rfl

variable (g : Nat → PV) (lf n : Nat)

theorem triCell_N {r p : Nat} (hr : r ≤ 100) (hp : p ≤ 100) (N : Nat) (hN : 1 ≤ N) (h : PHeap) : CL g lf N fn_impl_triangleCell [.int .i64 (r : Int), .int .i64 (p : Int)] h = some (.int .i64 ((cellsT r + p : Nat) : Int), h) := by
  obtain ⟨n, rfl⟩ : ∃ n, N = n + 1 := ⟨N - 1, by omega⟩
  have hm : r * (r + 1) < 1000000 := Nat.lt_of_le_of_lt (Nat.mul_le_mul hr (by omega : r + 1 ≤ 101)) (by decide)
  have hm2 : r * (r + 1) < 4611686018427387904 := by omega
  have : W (CL g lf (n + 1) fn_impl_triangleCell [.int .i64 (r : Int), .int .i64 (p : Int)] h) fun v h' => v = .int .i64 ((cellsT r + p : Nat) : Int) ∧ h' = h := by
    rw [impl_triangleCell.call_eq]
    unfold impl_triangleCell.main
    simp only [env_bin]
    repeat (first | with_reducible refine wrI ?_ | (with_reducible refine wmulN hm2 ?_) | (with_reducible refine wquo2 (by omega) ?_) | with_reducible refine wadd1 (by omega) ?_ | with_reducible refine waddN (by omega) ?_)
    exact W.ret ⟨rfl, rfl⟩
  obtain ⟨_, h', e, rfl, rfl⟩ := this
  exact e

theorem triCell0_N {r : Nat} (hr : r ≤ 100) (N : Nat) (hN : 1 ≤ N) (h : PHeap) : CL g lf N fn_impl_triangleCell [.int .i64 (r : Int), .int .i64 0] h = some (.int .i64 (cellsT r : Int), h) := triCell_N g lf hr (Nat.zero_le 100) N hN h

theorem triSize_N {s : Nat} (hs : s ≤ 100) (N : Nat) (hN : 2 ≤ N) (h : PHeap) : CL g lf N fn_impl_triangleSize [.int .i64 (s : Int)] h = some (.int .i64 (cellsT s : Int), h) := by
  obtain ⟨n, rfl⟩ : ∃ n, N = n + 1 := ⟨N - 1, by omega⟩
  have e1 := triCell0_N g lf hs n (by omega) h
  have : W (CL g lf (n + 1) fn_impl_triangleSize [.int .i64 (s : Int)] h) fun v h' => v = .int .i64 (cellsT s : Int) ∧ h' = h := by
    rw [impl_triangleSize.call_eq]
    unfold impl_triangleSize.main
    simp only [env_C]
    repeat (first | with_reducible refine wrI ?_ | with_reducible refine wbd (by assumption) ?_ | dsimp only)
    exact W.ret ⟨rfl, rfl⟩
  obtain ⟨_, h', e, rfl, rfl⟩ := this
  exact e

theorem triPlace_N {k : Nat} (hk : k < 10) (N : Nat) (hN : 3 ≤ N) (hlf : 20 < lf) (h : PHeap) : CL g lf N fn_impl_trianglePlace [.int .i64 (k : Int)] h = some (.tup [.int .i64 (rowT k : Int), .int .i64 (plT k : Int)], h) := by
  obtain ⟨n, rfl⟩ : ∃ n, N = n + 1 := ⟨N - 1, by omega⟩
  have : W (CL g lf (n + 1) fn_impl_trianglePlace [.int .i64 (k : Int)] h) fun v h' => v = .tup [.int .i64 (rowT k : Int), .int .i64 (plT k : Int)] ∧ h' = h := by
    rw [impl_trianglePlace.call_eq]
    unfold impl_trianglePlace.main
    simp only [env_lf]
    refine loopW (fun m st => ∃ r : Nat, st = impl_trianglePlace.st0 (.int .i64 (k : Int)) (.int .i64 (r : Int)) h ∧ r + m = 4 ∧ 1 ≤ m ∧ cellsT r ≤ k) ?_ lf 4 _ (by omega) ⟨0, rfl, by omega, by omega, Nat.zero_le _⟩
    rintro n1 m st ⟨r, rfl, hrm, hm1, hc⟩ next
    have eS := triSize_N g lf (s := r + 1) (by omega) n (by omega) h
    have eS0 := triSize_N g lf (s := r) (by omega) n (by omega) h
    have h10 := cellsT_le (s := r + 1) (by omega)
    have hr4 : r + 1 = 4 → cellsT (r + 1) = 10 := fun e => by rw [e]; rfl
    obtain ⟨c1, hc1⟩ : ∃ c1, c1 = cellsT (r + 1) := ⟨_, rfl⟩
    have hpl := fun h2 => place_at (k := k) (r := r) hk (by omega) hc h2
    rw [← hc1] at eS h10 hr4 hpl
    obtain ⟨c0, hc0⟩ : ∃ c0, c0 = cellsT r := ⟨_, rfl⟩
    rw [← hc0] at eS0 hc hpl
    rw [impl_trianglePlace.body0_eq]
    unfold impl_trianglePlace.body0
    simp only [env_C, env_bin]
    by_cases hle : c1 ≤ k
    · repeat (first | with_reducible refine wT ?_ | with_reducible refine wbd (by assumption) ?_ | with_reducible refine wadd1 (by omega) ?_ | with_reducible refine wleqT (by omega) ?_ | dsimp only)
      refine next (m - 1) _ (by omega) ⟨r + 1, rfl, by omega, ?_, by rw [← hc1]; exact hle⟩
      have := fun e => hr4 e
      omega
    · obtain ⟨e1, e2⟩ := hpl (by omega)
      repeat (first | with_reducible refine wF ?_ | with_reducible refine wrI ?_ | with_reducible refine wbd (by assumption) ?_ | (with_reducible refine wsubK (by omega) (by omega) ?_) | with_reducible refine wadd1 (by omega) ?_ | with_reducible refine wleqF (by omega) ?_ | rw [kLoop_exit] | rw [impl_trianglePlace.after0_se0_0_4_9] | dsimp only | simp only [env_C, env_g, env_lf, env_pick, env_alloc, env_box, env_build, env_buildSlice, env_load, env_store, env_ptr, env_bin, env_un, env_conv, env_make, env_slice, env_fieldAddr, env_field, env_indexAddr, env_index, env_extract, env_len, env_append, env_max, env_min, env_makeMap, env_lookup, env_update])
      rw [e1, e2]
      exact W.ret ⟨rfl, rfl⟩
  obtain ⟨_, h', e, rfl, rfl⟩ := this
  exact e

theorem triSide_N (N : Nat) (hN : 1 ≤ N) (h : PHeap) (side : Int) : CL g lf N fn_impl_triangleSideOk [.int .i64 side] h = some (.bool (decide (1 ≤ side ∧ side ≤ 4)), h) := by
  obtain ⟨n, rfl⟩ : ∃ n, N = n + 1 := ⟨N - 1, by omega⟩
  have : W (CL g lf (n + 1) fn_impl_triangleSideOk [.int .i64 side] h) fun v h' => v = .bool (decide (1 ≤ side ∧ side ≤ 4)) ∧ h' = h := by
    rw [impl_triangleSideOk.call_eq]
    unfold impl_triangleSideOk.main
    simp only [env_pick, env_bin]
    by_cases h1 : 1 ≤ side
    · by_cases h2 : side ≤ 4
      · rw [decide_eq_true (⟨h1, h2⟩ : 1 ≤ side ∧ side ≤ 4)]
        repeat (first | with_reducible refine wg1 rfl ?_ | with_reducible refine wpT ?_ | with_reducible refine wpv ?_ | with_reducible refine wsm ?_ | with_reducible refine wrB ?_ | with_reducible refine wleqT (by omega) ?_ | with_reducible refine wgeqT (by omega) ?_ | dsimp only)
        exact W.ret ⟨rfl, rfl⟩
      · rw [decide_eq_false (show ¬ (1 ≤ side ∧ side ≤ 4) by omega)]
        repeat (first | with_reducible refine wg1 rfl ?_ | with_reducible refine wpT ?_ | with_reducible refine wpv ?_ | with_reducible refine wsm ?_ | with_reducible refine wrB ?_ | with_reducible refine wleqF (by omega) ?_ | with_reducible refine wgeqT (by omega) ?_ | dsimp only)
        exact W.ret ⟨rfl, rfl⟩
    · rw [decide_eq_false (show ¬ (1 ≤ side ∧ side ≤ 4) by omega)]
      repeat (first | with_reducible refine wg0 rfl ?_ | with_reducible refine wpF ?_ | with_reducible refine wsm ?_ | with_reducible refine wrB ?_ | with_reducible refine wgeqF (by omega) ?_ | dsimp only)
      exact W.ret ⟨rfl, rfl⟩
  obtain ⟨_, h', e, rfl, rfl⟩ := this
  exact e

theorem triangleOk_N {xs : List Int} {p : PV} {h : PHeap} (N : Nat) (hN : 4 ≤ N) (side : Int) (hp : IntSl .i64 h p xs) (hl : xs.length ≤ 2 ^ 35) (hf : xs.length < lf) :
    CL g lf N fn_impl_TriangleOk [.int .i64 side, p] h = some (.bool (triB side xs), h) := by
  obtain ⟨n, rfl⟩ : ∃ n, N = n + 1 := ⟨N - 1, by omega⟩
  have : W (CL g lf (n + 1) fn_impl_TriangleOk [.int .i64 side, p] h) fun v h' => v = .bool (triB side xs) ∧ h' = h := by
    have e1 := triSide_N g lf n (by omega) h side
    have hlen := hp.len'
    rw [impl_TriangleOk.call_eq]
    unfold impl_TriangleOk.main
    simp only [env_C, env_lf, env_pick, env_bin, env_un, env_len]
    by_cases hs : 1 ≤ side ∧ side ≤ 4
    case neg =>
      rw [decide_eq_false hs] at e1
      have hno : triB side xs = false := by unfold triB; rw [decide_eq_false hs]; simp
      rw [hno]
      repeat (first | with_reducible refine wT ?_ | with_reducible refine wg0 rfl ?_ | with_reducible refine wpT ?_ | with_reducible refine wnF ?_ | with_reducible refine wsm ?_ | with_reducible refine wrB ?_ | with_reducible refine wbd (by assumption) ?_ | dsimp only)
      exact W.ret ⟨rfl, rfl⟩
    rw [decide_eq_true hs] at e1
    obtain ⟨s, rfl⟩ := Int.eq_ofNat_of_zero_le (show 0 ≤ side by omega)
    have eS := triSize_N g lf (s := s) (by omega) n (by omega) h
    have htri : triB (s : Int) xs = ((xs.all fun x => decide (1 ≤ x ∧ x ≤ 2)) && decide (xs.length = cellsT s)) := by unfold triB; rw [decide_eq_true hs, Int.toNat_natCast]; rfl
    obtain ⟨T, hT⟩ : ∃ T, T = cellsT s := ⟨_, rfl⟩
    rw [← hT] at eS htri
    by_cases hc : xs.length = T
    case neg =>
      have hc' : ¬ (xs.length : Int) = (T : Int) := by omega
      rw [htri, decide_eq_false hc, Bool.and_false]
      repeat (first | with_reducible refine wT ?_ | with_reducible refine wg1 rfl ?_ | with_reducible refine wpF ?_ | with_reducible refine wnT ?_ | with_reducible refine wpv ?_ | with_reducible refine wsm ?_ | with_reducible refine wrB ?_ | with_reducible refine wbd (by assumption) ?_ | with_reducible refine wneqT (by omega) ?_ | dsimp only)
      exact W.ret ⟨rfl, rfl⟩
    have hc' : (xs.length : Int) = (T : Int) := by omega
    rw [htri, decide_eq_true hc, Bool.and_true]
    repeat (first | with_reducible refine wF ?_ | with_reducible refine wg1 rfl ?_ | with_reducible refine wpF ?_ | with_reducible refine wnT ?_ | with_reducible refine wpv ?_ | with_reducible refine wsm ?_ | with_reducible refine wbd (by assumption) ?_ | with_reducible refine wneqF (by omega) ?_ | dsimp only)
    refine loopW (fun m s => ∃ (k : Nat), s = impl_TriangleOk.st0 p (.int .i64 (xs.length : Int)) (.int .i64 (k : Int)) h ∧ k + m = xs.length ∧ ∀ i (hi : i < xs.length), i < k → 1 ≤ xs[i] ∧ xs[i] ≤ 2) ?_ lf xs.length _ hf ⟨0, rfl, by omega, fun i _ h => by omega⟩
    rintro n1 m s ⟨k, rfl, hkm, hall⟩ next
    rw [impl_TriangleOk.body0_eq]
    unfold impl_TriangleOk.body0
    simp only [env_C, env_load, env_bin, env_un, env_indexAddr]
    cases m with
    | zero =>
      have hxs : (xs.all fun x => decide (1 ≤ x ∧ x ≤ 2)) = true := by
        rw [List.all_eq_true]
        intro x hx
        obtain ⟨i, hi, rfl⟩ := List.mem_iff_getElem.1 hx
        exact decide_eq_true (hall i hi (by omega))
      rw [hxs]
      repeat (first | with_reducible refine wF ?_ | with_reducible refine wrB ?_ | with_reducible refine wlssF (by omega) ?_ | rw [kLoop_exit] | rw [impl_TriangleOk.after0_se0_17_18_19_20])
      exact W.ret ⟨rfl, rfl⟩
    | succ m =>
      have hk : k < xs.length := by omega
      obtain ⟨a, ea, la⟩ := hp.at' hk
      have e2 := playerOk_W g lf n (by omega) h xs[k]
      by_cases hx : 1 ≤ xs[k] ∧ xs[k] ≤ 2
      · have hpb : playerB xs[k] = true := by unfold playerB; exact decide_eq_true (by omega)
        rw [hpb] at e2
        repeat (first | with_reducible refine wT ?_ | with_reducible refine wF ?_ | with_reducible refine wnT ?_ | with_reducible refine wbd (by assumption) ?_ | with_reducible refine wadd1 (by omega) ?_ | with_reducible refine wlssT (by omega) ?_ | dsimp only)
        refine next _ _ (Nat.lt_succ_self m) ⟨k + 1, rfl, by omega, fun i hi hlt => ?_⟩
        by_cases e : i = k
        · subst e; exact hx
        · exact hall i hi (by omega)
      · have hpb : playerB xs[k] = false := by unfold playerB; exact decide_eq_false (by omega)
        rw [hpb] at e2
        have hno : (xs.all fun x => decide (1 ≤ x ∧ x ≤ 2)) = false := by
          rw [List.all_eq_false]
          exact ⟨xs[k], List.getElem_mem hk, by rw [decide_eq_false hx]; decide⟩
        rw [hno]
        repeat (first | with_reducible refine wT ?_ | with_reducible refine wnF ?_ | with_reducible refine wrB ?_ | with_reducible refine wbd (by assumption) ?_ | with_reducible refine wlssT (by omega) ?_ | rw [kLoop_ret] | rw [impl_TriangleOk.K0_ret] | rw [impl_TriangleOk.top_sr_4] | dsimp only)
        exact W.ret ⟨rfl, rfl⟩
  obtain ⟨_, h', e, rfl, rfl⟩ := this
  exact e

theorem mostOf_N (N : Nat) (hN : 1 ≤ N) (h : PHeap) (x y z : Int) : CL g lf N fn_impl_mostOf [.int .i64 x, .int .i64 y, .int .i64 z] h = some (.int .i64 (if y = z then y else x), h) := by
  obtain ⟨n, rfl⟩ : ∃ n, N = n + 1 := ⟨N - 1, by omega⟩
  have : W (CL g lf (n + 1) fn_impl_mostOf [.int .i64 x, .int .i64 y, .int .i64 z] h) fun v h' => v = .int .i64 (if y = z then y else x) ∧ h' = h := by
    rw [impl_mostOf.call_eq]
    unfold impl_mostOf.main
    simp only [env_bin]
    by_cases e : y = z
    · rw [if_pos e]
      repeat (first | with_reducible refine wT ?_ | with_reducible refine wrI ?_ | with_reducible refine weqlT (by omega) ?_)
      exact W.ret ⟨rfl, rfl⟩
    · rw [if_neg e]
      repeat (first | with_reducible refine wF ?_ | with_reducible refine wrI ?_ | with_reducible refine weqlF (by omega) ?_)
      exact W.ret ⟨rfl, rfl⟩
  obtain ⟨_, h', e, rfl, rfl⟩ := this
  exact e

theorem shrunk_W {xs : List Int} {p : PV} {h : PHeap} (N : Nat) (hN : 6 ≤ N) (side : Int) (hp : IntSl .i64 h p xs) (hl : xs.length ≤ 2 ^ 35) (hf : xs.length < lf) (hlf : 20 < lf) :
    ∃ q h', CL g lf N fn_impl_Shrunk [.int .i64 side, p] h = some (q, h') ∧ OwnSl h.length h' q (shrunkL side xs) ∧ Keep h.length h h' := by
  obtain ⟨n, rfl⟩ : ∃ n, N = n + 1 := ⟨N - 1, by omega⟩
  suffices this : W (CL g lf (n + 1) fn_impl_Shrunk [.int .i64 side, p] h) fun q h' => OwnSl h.length h' q (shrunkL side xs) ∧ Keep h.length h h' by
    obtain ⟨q, h', e, o, k⟩ := this
    exact ⟨q, h', e, o, k⟩
  rw [impl_Shrunk.call_eq]
  unfold impl_Shrunk.main
  simp only [env_C, env_lf, env_pick, env_bin, env_un, env_make, env_len]
  have eT := triangleOk_N g lf n (by omega) side hp hl hf
  cases hb : triB side xs with
  | false =>
    rw [hb] at eT
    have hno : shrunkL side xs = [] := by unfold shrunkL; rw [hb]; rfl
    rw [hno]
    repeat (first | with_reducible refine wT ?_ | with_reducible refine wg0 rfl ?_ | with_reducible refine wpT ?_ | with_reducible refine wnF ?_ | with_reducible refine wsm ?_ | with_reducible refine wrN ?_ | with_reducible refine wbd (by assumption) ?_ | dsimp only)
    exact W.ret ⟨OwnSl.nil _ _, Keep.refl _ _⟩
  | true =>
    rw [hb] at eT
    obtain ⟨s, A, hT⟩ := tri_of hb
    obtain ⟨rfl, s1, s4, hA, hx, hlen, _, _⟩ := id hT
    by_cases h2 : 2 ≤ s
    case neg =>
      have hno : shrunkL (s : Int) xs = [] := by unfold shrunkL; rw [hb, decide_eq_false (by omega : ¬ 2 ≤ (s : Int))]; rfl
      rw [hno]
      repeat (first | with_reducible refine wT ?_ | with_reducible refine wg1 rfl ?_ | with_reducible refine wpF ?_ | with_reducible refine wnT ?_ | with_reducible refine wpv ?_ | with_reducible refine wsm ?_ | with_reducible refine wrN ?_ | with_reducible refine wbd (by assumption) ?_ | with_reducible refine weqlT (by omega) ?_ | dsimp only)
      exact W.ret ⟨OwnSl.nil _ _, Keep.refl _ _⟩
    rw [tri_shrunk hT h2]
    have hc10 := cellsT_le (s := s - 1) (by omega)
    have hs10 := cellsT_le s4
    have eS := fun hh => triSize_N g lf (s := s - 1) (by omega) n (by omega) hh
    have hbel := fun k hk => below_lt (s := s) (k := k) s4 hk
    have hbitA : ∀ k, k < cellsT (s - 1) → (shrT s A).testBit k = twoOf (A.testBit k) (A.testBit (belowT k)) (A.testBit (belowT k + 1)) := fun k hk => by
      unfold shrT; rw [bitsF_bit, decide_eq_true hk, Bool.true_and]
    obtain ⟨S, hS⟩ : ∃ S, S = shrT s A := ⟨_, rfl⟩
    rw [← hS] at hbitA ⊢
    obtain ⟨T, hT'⟩ : ∃ T, T = cellsT (s - 1) := ⟨_, rfl⟩
    rw [← hT'] at eS hc10 hbitA ⊢
    rw [← hT'] at hbel
    have hs1 : 1 ≤ s := s1
    repeat (first | with_reducible refine wF ?_ | with_reducible refine wg1 rfl ?_ | with_reducible refine wpF ?_ | with_reducible refine wnT ?_ | with_reducible refine wpv ?_ | with_reducible refine wsm ?_ | with_reducible refine wbd (by assumption) ?_ | (with_reducible refine wsub1 hs1 (by omega) ?_) | (with_reducible refine wbd (eS _) ?_) | with_reducible refine weqlF (by omega) ?_ | dsimp only)
    refine wmake (by omega) fun q h1 o1 k1 => ?_
    have hq := o1.int.len'
    rw [List.length_replicate] at hq
    repeat (first | with_reducible refine wbd (by assumption) ?_ | dsimp only)
    refine loopW (fun m st => ∃ (k : Nat) (ys : List Int) (h2 : PHeap), st = impl_Shrunk.st0 p q (.int .i64 (T : Int)) (.int .i64 (k : Int)) h2 ∧ k + m = T ∧ ys = (fillT T S).take k ++ List.replicate m 0 ∧ OwnSl h.length h2 q ys ∧ Keep h.length h h2) ?_ lf T _ (by omega) ⟨0, _, h1, rfl, by omega, by simp, o1, k1⟩
    rintro n1 m st ⟨k, ys, h2', rfl, hkm, hy, o2, k2⟩ next
    have hp2 := hp.keep k2
    rw [impl_Shrunk.body0_eq]
    unfold impl_Shrunk.body0
    simp only [env_C, env_load, env_store, env_bin, env_indexAddr, env_extract]
    cases m with
    | zero =>
      have hkT : k = T := by omega
      rw [List.replicate_zero, List.append_nil, List.take_of_length_le (by rw [fillT_length]; omega)] at hy
      have hr := o2.res
      repeat (first | with_reducible refine wF ?_ | with_reducible refine wbd (by assumption) ?_ | with_reducible refine wlssF (by omega) ?_ | rw [kLoop_exit] | rw [impl_Shrunk.after0_se0_1_5_23_24_25])
      exact W.ret ⟨hy ▸ o2, k2⟩
    | succ m =>
      have hk : k < T := by omega
      obtain ⟨b1, b2⟩ := hbel k hk
      have eP := fun hh => triPlace_N g lf (k := k) (by omega) n (by omega) hlf hh
      obtain ⟨r1, r2⟩ := place_le (k := k) (by omega)
      have eC := fun hh => triCell_N g lf (r := rowT k + 1) (p := plT k) (by omega) (by omega) n (by omega) hh
      have hbd : cellsT (rowT k + 1) + plT k = belowT k := rfl
      have hbit := hbitA k hk
      obtain ⟨B, hB⟩ : ∃ B, B = belowT k := ⟨_, rfl⟩
      rw [← hB] at hbd b1 hbit
      rw [hbd] at eC
      obtain ⟨a1, ea1, la1⟩ := hp2.at' (i := k) (by omega)
      obtain ⟨a2, ea2, la2⟩ := hp2.at' (i := B) (by omega)
      obtain ⟨a3, ea3, la3⟩ := hp2.at' (i := B + 1) (by omega)
      have v1 := fillT_at hx (k := k) (by omega) (by omega)
      have v2 := fillT_at hx (k := B) (by omega) (by omega)
      have v3 := fillT_at hx (k := B + 1) (by omega) (by omega)
      have hms := most_two (a := A.testBit k) (b := A.testBit B) (c := A.testBit (B + 1))
      rw [← v1, ← v2, ← v3, ← hbit] at hms
      obtain ⟨x1, hx1⟩ : ∃ x, x = xs[k]'(by omega) := ⟨_, rfl⟩
      obtain ⟨x2, hx2⟩ : ∃ x, x = xs[B]'(by omega) := ⟨_, rfl⟩
      obtain ⟨x3, hx3⟩ : ∃ x, x = xs[B + 1]'(by omega) := ⟨_, rfl⟩
      rw [← hx1] at la1 hms
      rw [← hx2] at la2 hms
      rw [← hx3] at la3 hms
      have eM := fun hh => mostOf_N g lf n (by omega) hh x1 x2 x3
      rw [hms] at eM
      have hyl : ys.length = T := by rw [hy, List.length_append, List.length_take, fillT_length, List.length_replicate]; omega
      have hset : ys.set k (if S.testBit k = true then 1 else 2) = (fillT T S).take (k + 1) ++ List.replicate m 0 := by
        rw [hy, set_rep (by rw [List.length_take, fillT_length]; omega), fillT_take hk]
      obtain ⟨v, hv⟩ : ∃ v, v = (if S.testBit k = true then 1 else 2 : Int) := ⟨_, rfl⟩
      rw [← hv] at eM hset
      clear hx1 hx2 hx3 v1 v2 v3 hms
      have hBb : B + 1 < 20 := by omega
      repeat (first | with_reducible refine wT ?_ | with_reducible refine wx0 ?_ | with_reducible refine wx1 ?_ | with_reducible refine wbd (by assumption) ?_ | (with_reducible refine wbd (eP _) ?_) | (with_reducible refine wbd (eC _) ?_) | (with_reducible refine wbd (eM _) ?_) | with_reducible refine wadd1 (by omega) ?_ | with_reducible refine wlssT (by omega) ?_ | dsimp only)
      refine wst o2 (show k < ys.length by omega) fun h3 o3 k3 l3 a e3 => ?_
      repeat (first | with_reducible refine wadd1 (by omega) ?_)
      exact next _ _ (Nat.lt_succ_self m) ⟨k + 1, _, h3, rfl, by omega, hset, o3, k2.trans k3⟩

theorem turned_W {xs : List Int} {p : PV} {h : PHeap} (N : Nat) (hN : 6 ≤ N) (side : Int) (hp : IntSl .i64 h p xs) (hl : xs.length ≤ 2 ^ 35) (hf : xs.length < lf) (hlf : 20 < lf) :
    ∃ q h', CL g lf N fn_impl_TurnedTriangle [.int .i64 side, p] h = some (q, h') ∧ OwnSl h.length h' q (turnedL side xs) ∧ Keep h.length h h' := by
  obtain ⟨n, rfl⟩ : ∃ n, N = n + 1 := ⟨N - 1, by omega⟩
  suffices this : W (CL g lf (n + 1) fn_impl_TurnedTriangle [.int .i64 side, p] h) fun q h' => OwnSl h.length h' q (turnedL side xs) ∧ Keep h.length h h' by
    obtain ⟨q, h', e, o, k⟩ := this
    exact ⟨q, h', e, o, k⟩
  rw [impl_TurnedTriangle.call_eq]
  unfold impl_TurnedTriangle.main
  simp only [env_C, env_lf, env_un, env_make, env_len]
  have eT := triangleOk_N g lf n (by omega) side hp hl hf
  cases hb : triB side xs with
  | false =>
    rw [hb] at eT
    have hno : turnedL side xs = [] := by unfold turnedL; rw [hb]; rfl
    rw [hno]
    repeat (first | with_reducible refine wT ?_ | with_reducible refine wnF ?_ | with_reducible refine wrN ?_ | with_reducible refine wbd (by assumption) ?_ | dsimp only)
    exact W.ret ⟨OwnSl.nil _ _, Keep.refl _ _⟩
  | true =>
    rw [hb] at eT
    obtain ⟨s, A, hT⟩ := tri_of hb
    obtain ⟨rfl, s1, s4, hA, hx, hlen, _, _⟩ := id hT
    rw [tri_turned hT]
    have hc10 := cellsT_le s4
    have hturn := fun k hk => turnK_lt (s := s) (k := k) s4 hk
    have hbitA : ∀ k, k < cellsT s → (turnT s A).testBit k = A.testBit (turnK s k) := fun k hk => by
      unfold turnT; rw [bitsF_bit, decide_eq_true hk, Bool.true_and]
    obtain ⟨S, hS⟩ : ∃ S, S = turnT s A := ⟨_, rfl⟩
    rw [← hS] at hbitA ⊢
    obtain ⟨T, hT'⟩ : ∃ T, T = cellsT s := ⟨_, rfl⟩
    rw [← hT'] at hlen hc10 hbitA hx ⊢
    rw [← hT'] at hturn
    have hlx := hp.len'
    rw [hlen] at hlx
    have hs1 : 1 ≤ s := s1
    repeat (first | with_reducible refine wF ?_ | with_reducible refine wnT ?_ | with_reducible refine wbd (by assumption) ?_ | dsimp only)
    refine wmake (by omega) fun q h1 o1 k1 => ?_
    have hq := o1.int.len'
    rw [List.length_replicate] at hq
    repeat (first | with_reducible refine wbd (by assumption) ?_ | dsimp only)
    refine loopW (fun m st => ∃ (k : Nat) (ys : List Int) (h2 : PHeap), st = impl_TurnedTriangle.st0 (.int .i64 (s : Int)) p q (.int .i64 (T : Int)) (.int .i64 (k : Int)) h2 ∧ k + m = T ∧ ys = (fillT T S).take k ++ List.replicate m 0 ∧ OwnSl h.length h2 q ys ∧ Keep h.length h h2) ?_ lf T _ (by omega) ⟨0, _, h1, rfl, by omega, by simp, o1, k1⟩
    rintro n1 m st ⟨k, ys, h2', rfl, hkm, hy, o2, k2⟩ next
    have hp2 := hp.keep k2
    rw [impl_TurnedTriangle.body0_eq]
    unfold impl_TurnedTriangle.body0
    simp only [env_C, env_load, env_store, env_bin, env_indexAddr, env_extract]
    cases m with
    | zero =>
      have hkT : k = T := by omega
      rw [List.replicate_zero, List.append_nil, List.take_of_length_le (by rw [fillT_length]; omega)] at hy
      have hr := o2.res
      repeat (first | with_reducible refine wF ?_ | with_reducible refine wbd (by assumption) ?_ | with_reducible refine wlssF (by omega) ?_ | rw [kLoop_exit] | rw [impl_TurnedTriangle.after0_se0_0_1_5_17_18_19])
      exact W.ret ⟨hy ▸ o2, k2⟩
    | succ m =>
      have hk : k < T := by omega
      obtain ⟨b1, b2, b3⟩ := hturn k hk
      have eP := fun hh => triPlace_N g lf (k := k) (by omega) n (by omega) hlf hh
      obtain ⟨r1, r2⟩ := place_le (k := k) (by omega)
      have eC := fun hh => triCell_N g lf (r := s - 1 - plT k) (p := rowT k - plT k) (by omega) (by omega) n (by omega) hh
      have hbd : cellsT (s - 1 - plT k) + (rowT k - plT k) = turnK s k := by unfold turnK; omega
      have hbit := hbitA k hk
      obtain ⟨B, hB⟩ : ∃ B, B = turnK s k := ⟨_, rfl⟩
      rw [← hB] at hbd b1 hbit
      rw [hbd] at eC
      obtain ⟨a1, ea1, la1⟩ := hp2.at' (i := B) (by omega)
      have v1 := fillT_at hx (k := B) (by omega) (by omega)
      rw [← hbit] at v1
      rw [v1] at la1
      have hyl : ys.length = T := by rw [hy, List.length_append, List.length_take, fillT_length, List.length_replicate]; omega
      have hset : ys.set k (if S.testBit k = true then 1 else 2) = (fillT T S).take (k + 1) ++ List.replicate m 0 := by
        rw [hy, set_rep (by rw [List.length_take, fillT_length]; omega), fillT_take hk]
      obtain ⟨v, hv⟩ : ∃ v, v = (if S.testBit k = true then 1 else 2 : Int) := ⟨_, rfl⟩
      rw [← hv] at la1 hset
      obtain ⟨R, hR⟩ : ∃ R, R = rowT k := ⟨_, rfl⟩
      obtain ⟨P, hP⟩ : ∃ P, P = plT k := ⟨_, rfl⟩
      rw [← hR, ← hP] at eP eC
      rw [← hR] at r1 r2 b2
      rw [← hP] at r2
      have hPs : P ≤ s - 1 := by omega
      repeat (first | with_reducible refine wT ?_ | with_reducible refine wx0 ?_ | with_reducible refine wx1 ?_ | with_reducible refine wbd (by assumption) ?_ | (with_reducible refine wbd (eP _) ?_) | (with_reducible refine wbd (eC _) ?_) | (with_reducible refine wsub1 hs1 (by omega) ?_) | (with_reducible refine wsubK hPs (by omega) ?_) | (with_reducible refine wsubK r2 (by omega) ?_) | with_reducible refine wlssT (by omega) ?_ | dsimp only)
      refine wst o2 (show k < ys.length by omega) fun h3 o3 k3 l3 a e3 => ?_
      repeat (first | with_reducible refine wadd1 (by omega) ?_)
      exact next _ _ (Nat.lt_succ_self m) ⟨k + 1, _, h3, rfl, by omega, hset, o3, k2.trans k3⟩

theorem lastCell_W {xs : List Int} {p : PV} {h : PHeap} (N : Nat) (hN : 8 ≤ N) (side : Int) (hp : IntSl .i64 h p xs) (hl : xs.length ≤ 2 ^ 35) (hf : xs.length < lf) (hlf : 20 < lf) :
    ∃ h', CL g lf N fn_impl_LastCell [.int .i64 side, p] h = some (.int .i64 (lastL side xs), h') ∧ Keep h.length h h' := by
  obtain ⟨n, rfl⟩ : ∃ n, N = n + 1 := ⟨N - 1, by omega⟩
  have : W (CL g lf (n + 1) fn_impl_LastCell [.int .i64 side, p] h) fun v h' => v = .int .i64 (lastL side xs) ∧ Keep h.length h h' := by
    rw [impl_LastCell.call_eq]
    unfold impl_LastCell.main
    simp only [env_C, env_lf, env_un]
    have eT := triangleOk_N g lf n (by omega) side hp hl hf
    cases hb : triB side xs with
    | false =>
      rw [hb] at eT
      have hno : lastL side xs = 0 := by unfold lastL; rw [hb]; rfl
      rw [hno]
      repeat (first | with_reducible refine wT ?_ | with_reducible refine wnF ?_ | with_reducible refine wrI ?_ | with_reducible refine wbd (by assumption) ?_ | dsimp only)
      exact W.ret ⟨rfl, Keep.refl _ _⟩
    | true =>
      rw [hb] at eT
      obtain ⟨s, A, hT⟩ := tri_of hb
      rw [tri_last hT]
      obtain ⟨v, hv⟩ : ∃ v, v = (if lastT s A = true then 1 else 2 : Int) := ⟨_, rfl⟩
      rw [← hv]
      obtain ⟨rfl, s1, s4, _⟩ := id hT
      repeat (first | with_reducible refine wF ?_ | with_reducible refine wnT ?_ | with_reducible refine wbd (by assumption) ?_ | dsimp only)
      refine loopW (fun m st => ∃ (r B : Nat) (ys : List Int) (q : PV) (h2 : PHeap), st = impl_LastCell.st0 (.int .i64 (r : Int)) q h2 ∧ r = m ∧ Tri (r : Int) ys r B ∧ IntSl .i64 h2 q ys ∧ v = (if lastT r B = true then 1 else 2 : Int) ∧ Keep h.length h h2) ?_ lf s _ (by omega) ⟨s, A, xs, p, h, rfl, rfl, hT, hp, hv, Keep.refl _ _⟩
      rintro n1 m st ⟨r, B, ys, q, h2, rfl, rfl, hT2, o2, hv2, k2⟩ next
      obtain ⟨_, r1, r4, hB, hy, hylen, _, _⟩ := id hT2
      have hr10 := cellsT_le r4
      rw [impl_LastCell.body0_eq]
      unfold impl_LastCell.body0
      simp only [env_C, env_bin]
      by_cases hr : 2 ≤ r
      · obtain ⟨q3, h3, e3, o3, k3⟩ := shrunk_W g lf n (by omega) (r : Int) o2 (by omega) (by omega) hlf
        rw [tri_shrunk hT2 hr] at o3
        have hlt := (shr_lt hT2 hr).1
        have hr1 : 1 ≤ r := r1
        repeat (first | with_reducible refine wT ?_ | with_reducible refine wbd (by assumption) ?_ | (with_reducible refine wsub1 hr1 (by omega) ?_) | with_reducible refine wgtrT (by omega) ?_ | dsimp only)
        exact next _ _ (show r - 1 < r by omega) ⟨r - 1, shrT r B, _, q3, h3, rfl, rfl, Tri.fill (by omega) (by omega) hlt, o3.int, by rw [hv2, last_shr hr], k2.trans (k3.mono k2.1)⟩
      · have hr1 : r = 1 := by omega
        subst hr1
        obtain ⟨a1, ea1, la1⟩ := o2.at' (i := 0) (by rw [hylen]; decide)
        have ea1 : indexAddrP Tryd.prog 25 q (.int .i64 0) = some a1 := ea1
        have v1 := fillT_at hy (k := 0) (by decide) (by rw [hylen]; decide)
        have v2 : v = (if B.testBit 0 = true then 1 else 2 : Int) := hv2
        rw [v1, ← v2] at la1
        repeat (first | with_reducible refine wF ?_ | with_reducible refine wrI ?_ | with_reducible refine wbd (by assumption) ?_ | with_reducible refine wgtrF (by omega) ?_ | rw [kLoop_exit] | rw [impl_LastCell.after0_se0_0_1_10] | simp only [env_C, env_g, env_lf, env_pick, env_alloc, env_box, env_build, env_buildSlice, env_load, env_store, env_ptr, env_bin, env_un, env_conv, env_make, env_slice, env_fieldAddr, env_field, env_indexAddr, env_index, env_extract, env_len, env_append, env_max, env_min, env_makeMap, env_lookup, env_update])
        exact W.ret ⟨rfl, k2⟩
  obtain ⟨_, h', e, rfl, k⟩ := this
  exact ⟨h', e, k⟩

theorem triangleOkOk : TriangleOkOk7 g lf := fun N hN side xs p h _ hp hl hf => ⟨h, triangleOk_N g lf N (by omega) side hp hl hf, Keep.refl _ _⟩
theorem shrunkOk (hlf : 20 < lf) : ShrunkOk7 g lf := fun N hN side _ _ _ _ hp hl hf => shrunk_W g lf N (by omega) side hp hl hf hlf
theorem turnedTriangleOk (hlf : 20 < lf) : TurnedTriangleOk7 g lf := fun N hN side _ _ _ _ hp hl hf => turned_W g lf N (by omega) side hp hl hf hlf
theorem lastCellOk (hlf : 20 < lf) : LastCellOk7 g lf := fun N hN side _ _ _ _ hp hl hf => lastCell_W g lf N (by omega) side hp hl hf hlf

end Go.Proofs.YtlefknibddkjpaaDoor

/- The least cell of a set, as the library finds it by its table of 64 bytes; and comparing a slice with nil, copying it. -/
set_option maxRecDepth 20000
namespace Go.Proofs.YtlefknibddkjpaaDoor
open Go Go.Ip G

/-- What the library computes, step by step. -/
def isU (o : Option PV) (a : Nat) : Bool := match o with | some (.int .u64 (.ofNat b)) => b == a | _ => false
theorem isU_eq {o : Option PV} {a : Nat} (h : isU o a = true) : o = some (.int .u64 (a : Int)) := by
  unfold isU at h
  split at h
  · have := beq_iff_eq.1 h; subst this; rfl
  · cases h
theorem tyTzU : Tryd.prog.underlying 67 = some (.array 64 5) := by kernel_rfl
theorem tyTz1 : sizeT Tryd.prog 5 = some 1 := by kernel_rfl
theorem tyTzA : isAggT Tryd.prog 5 = some false := by kernel_rfl
variable (g : Nat → PV) (lf n : Nat)

/-- The library's table is known to lie somewhere. -/
def Big (g : Nat → PV) : Prop := ∃ id, g 2 = .ptr id 0

/-! ### slices.Clone -/
end Go.Proofs.YtlefknibddkjpaaDoor

/- Triangles by waves: what the program walks from side to side, as sets; sets of ten cells: the least cell, and how many there are. -/
set_option maxRecDepth 20000
namespace Go.Proofs.YtlefknibddkjpaaDoor
open Go Go.Ip G

/-! ### waves -/
def lowT (x : Nat) : Nat := ((List.range 10).find? fun k => x.testBit k).getD 10
def aroundF (s : Nat) : Nat → Nat → Nat → Nat
  | 0, _, acc => acc
  | f + 1, rest, acc => if rest = 0 then acc else aroundF s f (rest &&& (rest - 1)) (acc ||| maskT s (lowT rest))
def aroundT (s X : Nat) : Nat := aroundF s 1024 X 0
def waveF (s thr : Nat) : Nat → Nat → Nat → Nat
  | 0, _, set => set
  | f + 1, wave, set => if wave = 0 then set else waveF s thr f (minusN (aroundT s wave &&& thr) set) (set ||| minusN (aroundT s wave &&& thr) set)
def waveT (s set thr : Nat) : Nat := waveF s thr 3000 set set
def edgeF (f : Nat → Nat) : Nat → Nat
  | 0 => 0
  | m + 1 => edgeF f m ||| (1 <<< f m)
def edgeK (s : Nat) : Nat → Nat → Nat
  | 0, r => cellsT r
  | 1, r => cellsT r + r
  | _, r => cellsT (s - 1) + r
def edgeT (s i : Nat) : Nat := edgeF (edgeK s i) s
def grpT (s own : Nat) : Nat → Nat
  | 0 => own
  | i + 1 => waveT s (edgeT s i &&& grpT s own i) (grpT s own i)
def touchT (s own : Nat) : Bool := !decide (grpT s own 3 = 0)
theorem touch_all : allTri (fun s A => touchT s A == lastT s A) = true := by kernel_rfl

theorem waveF_lt {s thr n : Nat} (ht : thr < 2 ^ n) : ∀ (f wave set : Nat), set < 2 ^ n → waveF s thr f wave set < 2 ^ n
  | 0, _, _, h => h
  | f + 1, wave, set, h => by
    rw [waveF]
    split
    · exact h
    · exact waveF_lt ht f _ _ (Nat.or_lt_two_pow h (minusN_lt (Nat.lt_of_le_of_lt Nat.and_le_right ht)))
theorem grpT_lt {s own n : Nat} (ho : own < 2 ^ n) : ∀ i, grpT s own i < 2 ^ n
  | 0 => ho
  | i + 1 => waveF_lt (grpT_lt ho i) _ _ _ (Nat.lt_of_le_of_lt Nat.and_le_right (grpT_lt ho i))
/-- A wave that is not empty brings cells. -/
theorem wave_more {set w thr : Nat} (h : minusN thr set ≠ 0) (hw : w = set ||| minusN thr set) : set < w := by
  have hle : set ≤ w := by rw [hw]; exact Nat.left_le_or
  rcases Nat.lt_or_ge set w with h1 | h1
  · exact h1
  · have he : set ||| minusN thr set = set := by omega
    exfalso
    apply h
    apply Nat.eq_of_testBit_eq
    intro j
    rw [Nat.zero_testBit]
    have := congrArg (fun x => x.testBit j) he
    simp only [Nat.testBit_or, minusN_bit] at this ⊢
    cases e1 : set.testBit j <;> cases e2 : thr.testBit j <;> rw [e1, e2] at this <;> first | rfl | (exact absurd this (by decide))

/-! ### sets of ten -/
def lsBT (x : Nat) : Bool := x.testBit (lowT x) && decide (lowT x < 10)
theorem lsT_all : ((List.range 1024).all fun x => x == 0 || lsBT x) = true := by kernel_rfl
theorem lowT_ok {x : Nat} (hx : x < 2 ^ 10) (h0 : x ≠ 0) : x.testBit (lowT x) = true ∧ lowT x < 10 := by
  have h := List.all_eq_true.1 lsT_all x (List.mem_range.2 hx)
  have h1 : lsBT x = true := by
    rcases Bool.or_eq_true_iff.1 h with h | h
    · exact absurd (by simpa using h) h0
    · exact h
  unfold lsBT at h1
  simpa using h1
def tz5T (x : Nat) : Nat := ((1 <<< lowT x) * 285870213051353865) % 2 ^ 64
def tz6T (x : Nat) : Nat := tz5T x / 2 ^ 58
noncomputable def tzBT (x : Nat) : Bool := isU (unP .neg (.int .u64 (x : Int))) (2 ^ 64 - x) && (isU (binP Tryd.prog .and 65 (.int .u64 (x : Int)) (.int .u64 ((2 ^ 64 - x : Nat) : Int))) (1 <<< lowT x) &&
  (isU (binP Tryd.prog .mul 65 (.int .u64 ((1 <<< lowT x : Nat) : Int)) (.int .u64 285870213051353865)) (tz5T x) && (isU (binP Tryd.prog .shr 65 (.int .u64 (tz5T x : Int)) (.int .u64 58)) (tz6T x) && tab64N[tz6T x]? == some (lowT x))))
theorem tzT_all : ((List.range 32).all fun a => (List.range 32).all fun b => (a == 0 && b == 0) || tzBT (a * 32 + b)) = true := by kernel_rfl
theorem tzT_one {x : Nat} (hx : x < 2 ^ 10) (h0 : x ≠ 0) : tzBT x = true := by
  have h := List.all_eq_true.1 (List.all_eq_true.1 tzT_all (x / 32) (List.mem_range.2 (by omega))) (x % 32) (List.mem_range.2 (by omega))
  rcases Bool.or_eq_true_iff.1 h with h | h
  · rw [Bool.and_eq_true, beq_iff_eq, beq_iff_eq] at h; omega
  · rw [show x / 32 * 32 + x % 32 = x by omega] at h; exact h
theorem tzT_steps {x : Nat} (hx : x < 2 ^ 10) (h0 : x ≠ 0) : ∃ v3 v4 v5, ∃ i : Nat, unP .neg (.int .u64 (x : Int)) = some v3 ∧ binP Tryd.prog .and 65 (.int .u64 (x : Int)) v3 = some v4 ∧ binP Tryd.prog .mul 65 v4 (.int .u64 285870213051353865) = some v5 ∧
    binP Tryd.prog .shr 65 v5 (.int .u64 58) = some (.int .u64 (i : Int)) ∧ tab64N[i]? = some (lowT x) := by
  have h1 := tzT_one hx h0
  unfold tzBT at h1
  obtain ⟨a, h1⟩ := Bool.and_eq_true_iff.1 h1
  obtain ⟨b, h1⟩ := Bool.and_eq_true_iff.1 h1
  obtain ⟨c, h1⟩ := Bool.and_eq_true_iff.1 h1
  obtain ⟨d, h1⟩ := Bool.and_eq_true_iff.1 h1
  exact ⟨_, _, _, _, isU_eq a, isU_eq b, isU_eq c, isU_eq d, beq_iff_eq.1 h1⟩
theorem tzConvT (l : Nat) (hl : l < 10) : convP Tryd.prog 5 3 (.int .u8 (l : Int)) = some (.int .i64 (l : Int)) := by
  have : convP Tryd.prog 5 3 (.int .u8 (l : Int)) = some (.int .i64 (IntKind.i64.wrap (l : Int))) := by kernel_rfl
  rw [this, wr (by omega)]
theorem tzConvT2 (x : Nat) (hx : x < 2 ^ 10) : convP Tryd.prog 3 61 (.int .i64 (x : Int)) = some (.int .u64 (x : Int)) := by
  have : convP Tryd.prog 3 61 (.int .i64 (x : Int)) = some (.int .u64 (IntKind.u64.wrap (x : Int))) := by kernel_rfl
  rw [this]
  have : IntKind.u64.wrap (x : Int) = (x : Int) := by unfold IntKind.wrap; simp [IntKind.bits, IntKind.signed]; omega
  rw [this]

variable (g : Nat → PV) (lf n : Nat)

theorem tz64T_W {x : Nat} (hx : x < 2 ^ 10) (h0 : x ≠ 0) (hb : Big g) {h : PHeap} (ht : Tab64 g h) (N : Nat) (hN : 1 ≤ N) : CL g lf N fn_bits_TrailingZeros64 [.int .u64 (x : Int)] h = some (.int .i64 (lowT x : Int), h) := by
  obtain ⟨n, rfl⟩ : ∃ n, N = n + 1 := ⟨N - 1, by omega⟩
  obtain ⟨id, hg⟩ := hb
  have ho := ht id hg
  obtain ⟨v3, v4, v5, i, e3, e4, e5, e6, hi⟩ := tzT_steps hx h0
  have hi64 : i < 64 := (List.getElem?_eq_some_iff.1 hi).1
  have e7 : indexAddrP Tryd.prog 67 (.ptr id 0) (.int .u64 (i : Int)) = some (.ptr id i) := by simp [indexAddrP, tyTzU, tyTz1]; omega
  have e8 : loadP Tryd.prog 5 (.ptr id i) h = some (.int .u8 (lowT x : Int)) := by
    simp [loadP, tyTzA, cellsAt, ho, PObj.get, tab64Cells, hi]
  have e9 := tzConvT (lowT x) (lowT_ok hx h0).2
  have : W (CL g lf (n + 1) fn_bits_TrailingZeros64 [.int .u64 (x : Int)] h) fun v h' => v = .int .i64 (lowT x : Int) ∧ h' = h := by
    rw [bits_TrailingZeros64.call_eq]
    unfold bits_TrailingZeros64.main
    simp only [env_g, env_load, env_bin, env_un, env_conv, env_indexAddr]
    refine weqlF (by omega) ?_
    rw [hg]
    repeat (first | with_reducible refine wF ?_ | with_reducible refine wrI ?_ | with_reducible refine wbd (by assumption) ?_)
    exact W.ret ⟨rfl, rfl⟩
  obtain ⟨_, _, e, rfl, rfl⟩ := this
  exact e

theorem leastInT_W {x : Nat} (hx : x < 2 ^ 10) (h0 : x ≠ 0) (hb : Big g) {h : PHeap} (ht : Tab64 g h) (N : Nat) (hN : 3 ≤ N) : CL g lf N fn_impl_leastIn [.int .i64 (x : Int)] h = some (.int .i64 (lowT x : Int), h) := by
  obtain ⟨n, rfl⟩ : ∃ n, N = n + 1 := ⟨N - 1, by omega⟩
  obtain ⟨n, rfl⟩ : ∃ m, n = m + 1 := ⟨n - 1, by omega⟩
  have e1 := tzConvT2 x hx
  have e2 := tz64T_W g lf hx h0 hb ht n (by omega)
  have e3 : CL g lf (n + 1) fn_bits_TrailingZeros [.int .u64 (x : Int)] h = some (.int .i64 (lowT x : Int), h) := by
    have : W (CL g lf (n + 1) fn_bits_TrailingZeros [.int .u64 (x : Int)] h) fun v h' => v = .int .i64 (lowT x : Int) ∧ h' = h := by
      rw [bits_TrailingZeros.call_eq]
      unfold bits_TrailingZeros.main
      simp only [env_C, env_conv]
      repeat (first | with_reducible refine wF ?_ | with_reducible refine wrI ?_ | with_reducible refine wbd (by assumption) ?_ | dsimp only)
      exact W.ret ⟨rfl, rfl⟩
    obtain ⟨_, _, e, rfl, rfl⟩ := this
    exact e
  have : W (CL g lf (n + 1 + 1) fn_impl_leastIn [.int .i64 (x : Int)] h) fun v h' => v = .int .i64 (lowT x : Int) ∧ h' = h := by
    rw [impl_leastIn.call_eq]
    unfold impl_leastIn.main
    simp only [env_C, env_conv]
    repeat (first | with_reducible refine wrI ?_ | with_reducible refine wbd (by assumption) ?_ | dsimp only)
    exact W.ret ⟨rfl, rfl⟩
  obtain ⟨_, _, e, rfl, rfl⟩ := this
  exact e

theorem onesT_all (h : PHeap) : ((List.range 32).map fun a => (List.range 32).map fun b => bits_OnesCount64.main (env g lf n) (.int .u64 ((a * 32 + b : Nat) : Int)) h) = (List.range 32).map fun a => (List.range 32).map fun b => some (PV.int .i64 ((popT (a * 32 + b) : Nat) : Int), h) := by kernel_rfl
theorem onesT_at (h : PHeap) {x : Nat} (hx : x < 1024) : bits_OnesCount64.main (env g lf n) (.int .u64 (x : Int)) h = some (.int .i64 ((popT x : Nat) : Int), h) := by
  have h1 := congrArg (fun l => (l[x / 32]?).bind fun r => r[x % 32]?) (onesT_all g lf n h)
  simp only [List.getElem?_map, List.getElem?_range (show x / 32 < 32 by omega), List.getElem?_range (show x % 32 < 32 by omega), Option.map_some, Option.bind_some, Option.some.injEq] at h1
  rw [show x / 32 * 32 + x % 32 = x by omega] at h1
  exact h1
theorem countInT_W (N : Nat) (hN : 3 ≤ N) (h : PHeap) {x : Nat} (hx : x < 1024) : CL g lf N fn_impl_countIn [.int .i64 (x : Int)] h = some (.int .i64 ((popT x : Nat) : Int), h) := by
  obtain ⟨n, rfl⟩ : ∃ n, N = n + 3 := ⟨N - 3, by omega⟩
  have e64 : CL g lf (n + 1) fn_bits_OnesCount64 [.int .u64 (x : Int)] h = some (.int .i64 ((popT x : Nat) : Int), h) := by
    rw [bits_OnesCount64.call_eq]; exact onesT_at g lf n h hx
  have e1 : CL g lf (n + 2) fn_bits_OnesCount [.int .u64 (x : Int)] h = some (.int .i64 ((popT x : Nat) : Int), h) := by
    rw [bits_OnesCount.call_eq]
    unfold bits_OnesCount.main
    simp only [env_C]
    rw [e64]
    rfl
  rw [impl_countIn.call_eq]
  unfold impl_countIn.main
  simp only [env_C, env_conv]
  rw [tzConvT2 x (by omega)]
  simp only [Option.bind_some]
  rw [e1]
  rfl

end Go.Proofs.YtlefknibddkjpaaDoor

/- The program's search: structs and a map on the interpreter's heap; the sets' joining; what stands after a move. -/
set_option maxRecDepth 20000
namespace Go.Proofs.YtlefknibddkjpaaDoor
open Go Go.Ip G

/-! ### objects by themselves, and what keeps all but one -/
def At (h : PHeap) (id : Nat) (l : List PV) : Prop := h[id]? = some (.own 1 l)
theorem At.lt {h : PHeap} {id : Nat} {l : List PV} (a : At h id l) : id < h.length := (List.getElem?_eq_some_iff.1 a).1
/-- All is as it was but the object m, and what is behind. -/
def KB (m : Nat) (h h' : PHeap) : Prop := h.length ≤ h'.length ∧ ∀ i, i < h.length → i ≠ m → h'[i]? = h[i]?
theorem KB.refl (m : Nat) (h : PHeap) : KB m h h := ⟨Nat.le_refl _, fun _ _ _ => rfl⟩
theorem KB.trans {m : Nat} {a b c : PHeap} (h : KB m a b) (k : KB m b c) : KB m a c := ⟨Nat.le_trans h.1 k.1, fun i hi hn => (k.2 i (Nat.lt_of_lt_of_le hi h.1) hn).trans (h.2 i hi hn)⟩
theorem Keep.kb {m : Nat} {a b : PHeap} (h : Keep a.length a b) : KB m a b := ⟨h.1, fun i hi _ => h.2 i hi⟩
theorem KB.keep {m n : Nat} {a b : PHeap} (h : KB m a b) (hm : n ≤ m) (hn : n ≤ a.length) : Keep n a b := ⟨h.1, fun i hi => h.2 i (Nat.lt_of_lt_of_le hi hn) (by omega)⟩
theorem At.keep {h h' : PHeap} {id : Nat} {l : List PV} (a : At h id l) (k : Keep h.length h h') : At h' id l := by unfold At; rw [k.2 id a.lt]; exact a
theorem At.kb {h h' : PHeap} {id m : Nat} {l : List PV} (a : At h id l) (k : KB m h h') (hn : id ≠ m) : At h' id l := by unfold At; rw [k.2 id a.lt hn]; exact a
def MapAt (h : PHeap) (m : Nat) (es : List (PV × PV)) : Prop := h[m]? = some (.mp es)
theorem MapAt.lt {h : PHeap} {m : Nat} {es : List (PV × PV)} (a : MapAt h m es) : m < h.length := (List.getElem?_eq_some_iff.1 a).1
theorem MapAt.keep {h h' : PHeap} {m : Nat} {es : List (PV × PV)} (a : MapAt h m es) (k : Keep h.length h h') : MapAt h' m es := by unfold MapAt; rw [k.2 m a.lt]; exact a
theorem MapAt.kb {h h' : PHeap} {id m : Nat} {es : List (PV × PV)} (a : MapAt h m es) (k : KB id h h') (hn : m ≠ id) : MapAt h' m es := by unfold MapAt; rw [k.2 m a.lt hn]; exact a
theorem Fix.kb {b m : Nat} {h h' : PHeap} {p : PV} {xs : List Int} (s : Fix b h p xs) (k : KB m h h') (hb : b ≤ m) (hb2 : b ≤ h.length) : Fix b h' p xs := s.keep (k.keep hb hb2)

section
variable {Q : PV → PHeap → Prop} {h : PHeap}
/-- A new object. -/
theorem wnew {l : List PV} {x : Res} {f : PV × PHeap → Res} (hx : x = some (.ptr h.length 0, h ++ [.own 1 l])) (hf : ∀ h' id, At h' id l → Keep h.length h h' → h.length ≤ id → W (f (.ptr id 0, h')) Q) : W (x.bind f) Q := by
  rw [hx]
  exact hf _ _ (by unfold At; simp) (Keep.append _ _ _ (Nat.le_refl _)) (Nat.le_refl _)
/-- An object is written to. -/
theorem put_at {id : Nat} {l l' : List PV} (a : At h id l) : At (h.set id (.own 1 l')) id l' ∧ KB id h (h.set id (.own 1 l')) := by
  refine ⟨by unfold At; rw [List.getElem?_set_self a.lt], by simp, fun i _ hn => List.getElem?_set_ne (by omega)⟩
end

/-! ### types -/
theorem tyA3 : Tryd.prog.underlying 58 = some (.array 3 3) := by kernel_rfl
theorem ia3 (id o i : Nat) (hi : i < 3) : indexAddrP Tryd.prog 58 (.ptr id o) (.int .i64 (i : Int)) = some (.ptr id (o + i)) := by simp [indexAddrP, tyA3, tySize]; omega
theorem ld1 {h : PHeap} {id i : Nat} {l : List PV} {v : PV} (a : At h id l) (hv : l[i]? = some v) : loadP Tryd.prog 3 (.ptr id i) h = some v := by
  simp [loadP, tyAgg, cellsAt, show h[id]? = some (.own 1 l) from a, PObj.get, hv]
theorem st1 {h : PHeap} {id i : Nat} {l : List PV} {x : Int} (a : At h id l) (hi : i < l.length) : storeP Tryd.prog 3 (.ptr id i) (.int .i64 x) h = some (h.set id (.own 1 (l.set i (.int .i64 x)))) := by
  simp [storeP, show h[id]? = some (.own 1 l) from a, PV.cells, tySize, setCells]; omega

/-! ### what stands -/
section
variable {Q : PV → PHeap → Prop} {h : PHeap} {id f a b t : Nat}
theorem wst1 {i : Nat} {l : List PV} {x : Int} (o : At h id l) (hi : i < l.length) {F : PHeap → Res} (hf : ∀ h', At h' id (l.set i (.int .i64 x)) → KB id h h' → W (F h') Q) : W ((storeP Tryd.prog 3 (.ptr id i) (.int .i64 x) h).bind F) Q := by
  rw [st1 o hi]; exact hf _ (put_at o).1 (put_at o).2
end

variable (g : Nat → PV) (lf n : Nat)

theorem Keep.kbs {n m : Nat} {a b c : PHeap} (k : Keep n a b) (hn : n ≤ a.length) (k' : KB m b c) (hm : n ≤ m) : Keep n a c := k.trans (k'.keep hm (Nat.le_trans hn k.1))
/-! ### a board's search -/
end Go.Proofs.YtlefknibddkjpaaDoor

/- The program's chapter 7, continued: neighbours in triangles; who has joined all sides; how many triangles are won. -/
set_option maxRecDepth 20000
namespace Go.Proofs.YtlefknibddkjpaaDoor
open Go Go.Ip G

/-! ### the table of steps -/
def triSteps : List (Int × Int) := [(-1, -1), (-1, 0), (0, -1), (0, 1), (1, 0), (1, 1)]
def tstp (i : Nat) : Int × Int := triSteps.getD i (0, 0)
theorem tri_load {g : Nat → PV} {h : PHeap} (t : TabT g h) : loadP Tryd.prog 50 (g 0) h = some (.agg triCells) := by
  obtain ⟨⟨id, e, ho⟩, _⟩ := t
  rw [e]
  simp [loadP, tyTabAgg, tyTabSize, cellsAt, ho, PObj.get, triCells]
theorem tri_index (i : Nat) (hi : i < 6) : indexP Tryd.prog 50 (.agg triCells) (.int .i64 (i : Int)) = some (.agg [.int .i64 (tstp i).1, .int .i64 (tstp i).2]) := by
  have t0 : indexP Tryd.prog 50 (.agg triCells) (.int .i64 ((0 : Nat) : Int)) = some (.agg [.int .i64 (tstp 0).1, .int .i64 (tstp 0).2]) := by kernel_rfl
  have t1 : indexP Tryd.prog 50 (.agg triCells) (.int .i64 ((1 : Nat) : Int)) = some (.agg [.int .i64 (tstp 1).1, .int .i64 (tstp 1).2]) := by kernel_rfl
  have t2 : indexP Tryd.prog 50 (.agg triCells) (.int .i64 ((2 : Nat) : Int)) = some (.agg [.int .i64 (tstp 2).1, .int .i64 (tstp 2).2]) := by kernel_rfl
  have t3 : indexP Tryd.prog 50 (.agg triCells) (.int .i64 ((3 : Nat) : Int)) = some (.agg [.int .i64 (tstp 3).1, .int .i64 (tstp 3).2]) := by kernel_rfl
  have t4 : indexP Tryd.prog 50 (.agg triCells) (.int .i64 ((4 : Nat) : Int)) = some (.agg [.int .i64 (tstp 4).1, .int .i64 (tstp 4).2]) := by kernel_rfl
  have t5 : indexP Tryd.prog 50 (.agg triCells) (.int .i64 ((5 : Nat) : Int)) = some (.agg [.int .i64 (tstp 5).1, .int .i64 (tstp 5).2]) := by kernel_rfl
  have : i = 0 ∨ i = 1 ∨ i = 2 ∨ i = 3 ∨ i = 4 ∨ i = 5 := by omega
  rcases this with rfl | rfl | rfl | rfl | rfl | rfl
  · exact t0
  · exact t1
  · exact t2
  · exact t3
  · exact t4
  · exact t5
theorem tstp_small (i : Nat) : -1 ≤ (tstp i).1 ∧ (tstp i).1 ≤ 1 ∧ -1 ≤ (tstp i).2 ∧ (tstp i).2 ≤ 1 := by
  by_cases hi : i < 6
  · have : i = 0 ∨ i = 1 ∨ i = 2 ∨ i = 3 ∨ i = 4 ∨ i = 5 := by omega
    rcases this with rfl | rfl | rfl | rfl | rfl | rfl <;> decide
  · have : tstp i = (0, 0) := by
      unfold tstp
      rw [List.getD_eq_getElem?_getD, List.getElem?_eq_none (by show 6 ≤ i; omega)]; rfl
    rw [this]; decide

/-! ### pairs, and arrays of three -/
theorem stP2 {h : PHeap} {id : Nat} {a b x y : PV} (o : At h id [x, y]) {m n : Int} (ha : a = .int .i64 m) (hb : b = .int .i64 n) : storeP Tryd.prog 49 (.ptr id 0) (.agg [a, b]) h = some (h.set id (.own 1 [a, b])) := by
  subst ha hb
  simp [storeP, show h[id]? = some (.own 1 [x, y]) from o, tyPairSize, PV.cells, PV.oneCell, setCells]
theorem tyA3A : isAggT Tryd.prog 58 = some true := by kernel_rfl
theorem tyA3S : sizeT Tryd.prog 58 = some 3 := by kernel_rfl
theorem tyA3Z : zeroCellsT Tryd.prog 58 = some [.int .i64 0, .int .i64 0, .int .i64 0] := by kernel_rfl
def c3 (a b c : Nat) : List PV := [.int .i64 (a : Int), .int .i64 (b : Int), .int .i64 (c : Int)]
theorem al3 (h : PHeap) : allocP Tryd.prog 58 h = some (.ptr h.length 0, h ++ [.own 1 (c3 0 0 0)]) := by simp [allocP, tyA3Z, c3]
theorem ldA3 {h : PHeap} {id a b c : Nat} (o : At h id (c3 a b c)) : loadP Tryd.prog 58 (.ptr id 0) h = some (.agg (c3 a b c)) := by
  simp [loadP, tyA3A, tyA3S, cellsAt, show h[id]? = some (.own 1 (c3 a b c)) from o, PObj.get, c3]
theorem stA3 {h : PHeap} {id a b c a' b' c' : Nat} (o : At h id (c3 a' b' c')) : storeP Tryd.prog 58 (.ptr id 0) (.agg (c3 a b c)) h = some (h.set id (.own 1 (c3 a b c))) := by
  simp [storeP, show h[id]? = some (.own 1 (c3 a' b' c')) from o, c3, PV.cells, PV.oneCell, tyA3S, setCells]
section
variable {Q : PV → PHeap → Prop} {h : PHeap} {id : Nat}
theorem walP {F : PV × PHeap → Res} (hf : ∀ h' id, At h' id [.int .i64 0, .int .i64 0] → Keep h.length h h' → h.length ≤ id → W (F (.ptr id 0, h')) Q) : W ((allocP Tryd.prog 49 h).bind F) Q := wnew (pair_alloc h) hf
theorem wstP {x y : PV} {m n : Int} (o : At h id [x, y]) {F : PHeap → Res} (hf : ∀ h', At h' id [.int .i64 m, .int .i64 n] → KB id h h' → W (F h') Q) : W ((storeP Tryd.prog 49 (.ptr id 0) (.agg [.int .i64 m, .int .i64 n]) h).bind F) Q := by
  rw [stP2 o rfl rfl]; exact hf _ (put_at o).1 (put_at o).2
theorem wal3 {F : PV × PHeap → Res} (hf : ∀ h' id, At h' id (c3 0 0 0) → Keep h.length h h' → h.length ≤ id → W (F (.ptr id 0, h')) Q) : W ((allocP Tryd.prog 58 h).bind F) Q := wnew (al3 h) hf
theorem wstA3 {a b c a' b' c' : Nat} (o : At h id (c3 a' b' c')) {F : PHeap → Res} (hf : ∀ h', At h' id (c3 a b c) → KB id h h' → W (F h') Q) : W ((storeP Tryd.prog 58 (.ptr id 0) (.agg (c3 a b c)) h).bind F) Q := by
  rw [stA3 o]; exact hf _ (put_at o).1 (put_at o).2
theorem wi30 {F : PV → Res} (hf : W (F (.ptr id 0)) Q) : W ((indexAddrP Tryd.prog 58 (.ptr id 0) (.int .i64 0)).bind F) Q := wbd (ia3 id 0 0 (by decide)) hf
theorem wi31 {F : PV → Res} (hf : W (F (.ptr id 1)) Q) : W ((indexAddrP Tryd.prog 58 (.ptr id 0) (.int .i64 1)).bind F) Q := wbd (ia3 id 0 1 (by decide)) hf
theorem wi32 {F : PV → Res} (hf : W (F (.ptr id 2)) Q) : W ((indexAddrP Tryd.prog 58 (.ptr id 0) (.int .i64 2)).bind F) Q := wbd (ia3 id 0 2 (by decide)) hf
theorem wld {i : Nat} {l : List PV} {v : PV} (o : At h id l) (hv : l[i]? = some v) {F : PV → Res} (hf : W (F v) Q) : W ((loadP Tryd.prog 3 (.ptr id i) h).bind F) Q := wbd (ld1 o hv) hf
end

/-! ### neighbours -/
def inT (s k : Nat) (d : Int × Int) : Bool := decide ((rowT k : Int) + d.1 < (s : Int)) && (decide (0 ≤ (plT k : Int) + d.2) && decide ((plT k : Int) + d.2 ≤ (rowT k : Int) + d.1))
def cellAt (k : Nat) (d : Int × Int) : Int := ((cellsT ((rowT k : Int) + d.1).toNat + ((plT k : Int) + d.2).toNat : Nat) : Int)
def nearTS (s k : Nat) (ds : List (Int × Int)) : List Int := (ds.filter (inT s k)).map (cellAt k)
theorem nearTS_all : ((List.range 5).all fun s => (List.range (cellsT s)).all fun k => nearTS s k triSteps == listT (maskT s k)) = true := by kernel_rfl
theorem nearTS_is {s k : Nat} (hs : s ≤ 4) (hk : k < cellsT s) : nearTS s k triSteps = listT (maskT s k) :=
  beq_iff_eq.1 (List.all_eq_true.1 (List.all_eq_true.1 nearTS_all s (List.mem_range.2 (by omega))) k (List.mem_range.2 hk))
theorem nearTS_next {s k i : Nat} (hi : i < 6) : nearTS s k (triSteps.take (i + 1)) = nearTS s k (triSteps.take i) ++ (if inT s k (tstp i) = true then [cellAt k (tstp i)] else []) := by
  have hd : triSteps[i]? = some (tstp i) := by
    unfold tstp; rw [List.getD_eq_getElem?_getD]
    cases e : triSteps[i]? with
    | some v => rfl
    | none => rw [List.getElem?_eq_none_iff] at e; exact absurd (show i < triSteps.length from hi) (by omega)
  rw [List.take_add_one, hd]
  unfold nearTS
  rw [List.filter_append, List.map_append]
  congr 1
  cases e : inT s k (tstp i) <;> simp [List.filter_cons, e]
theorem nearTS_len (s k : Nat) (ds : List (Int × Int)) : (nearTS s k ds).length ≤ ds.length := by
  unfold nearTS; rw [List.length_map]; exact List.length_filter_le _ _

variable (g : Nat → PV) (lf n : Nat)

set_option maxHeartbeats 1000000 in
theorem triNear_W (N : Nat) (hN : 6 ≤ N) (hlf : 20 < lf) (side cell : Int) {h : PHeap} (ht : TabT g h) :
    ∃ q h', CL g lf N fn_impl_TriangleNear [.int .i64 side, .int .i64 cell] h = some (q, h') ∧ OwnSl h.length h' q (nearTL side cell) ∧ Keep h.length h h' := by
  obtain ⟨n, rfl⟩ : ∃ n, N = n + 1 := ⟨N - 1, by omega⟩
  suffices this : W (CL g lf (n + 1) fn_impl_TriangleNear [.int .i64 side, .int .i64 cell] h) fun q h' => OwnSl h.length h' q (nearTL side cell) ∧ Keep h.length h h' by
    obtain ⟨q, h', e, o, k⟩ := this
    exact ⟨q, h', e, o, k⟩
  have e1 := triSide_N g lf n (by omega) h side
  rw [impl_TriangleNear.call_eq]
  unfold impl_TriangleNear.main
  simp only [env_C, env_g, env_lf, env_pick, env_load, env_bin, env_un, env_extract]
  by_cases hs : 1 ≤ side ∧ side ≤ 4
  case neg =>
    rw [decide_eq_false hs] at e1
    have hno : nearTL side cell = [] := by unfold nearTL; rw [decide_eq_false hs]; rfl
    rw [hno]
    repeat (first | with_reducible refine wT ?_ | with_reducible refine wg0 rfl ?_ | with_reducible refine wpT ?_ | with_reducible refine wnF ?_ | with_reducible refine wsm ?_ | with_reducible refine wrN ?_ | with_reducible refine wbd (by assumption) ?_ | dsimp only)
    exact W.ret ⟨OwnSl.nil _ _, Keep.refl _ _⟩
  rw [decide_eq_true hs] at e1
  obtain ⟨s, rfl⟩ := Int.eq_ofNat_of_zero_le (show 0 ≤ side by omega)
  have s4 : s ≤ 4 := by omega
  have eS := triSize_N g lf (s := s) (by omega) n (by omega) h
  have hc10 := cellsT_le s4
  by_cases hc : 0 ≤ cell ∧ cell < (cellsT s : Int)
  case neg =>
    have hno : nearTL (s : Int) cell = [] := by unfold nearTL; rw [Int.toNat_natCast, decide_eq_false hc, Bool.and_false]; rfl
    rw [hno]
    obtain ⟨T, hT⟩ : ∃ T, T = cellsT s := ⟨_, rfl⟩
    rw [← hT] at eS hc10 hc
    by_cases h0 : cell < 0
    · repeat (first | with_reducible refine wT ?_ | with_reducible refine wg1 rfl ?_ | with_reducible refine wg0 rfl ?_ | with_reducible refine wpT ?_ | with_reducible refine wpF ?_ | with_reducible refine wnT ?_ | with_reducible refine wpv ?_ | with_reducible refine wsm ?_ | with_reducible refine wrN ?_ | with_reducible refine wbd (by assumption) ?_ | with_reducible refine wlssT (by omega) ?_ | dsimp only)
      exact W.ret ⟨OwnSl.nil _ _, Keep.refl _ _⟩
    · repeat (first | with_reducible refine wT ?_ | with_reducible refine wg1 rfl ?_ | with_reducible refine wpF ?_ | with_reducible refine wnT ?_ | with_reducible refine wpv ?_ | with_reducible refine wsm ?_ | with_reducible refine wrN ?_ | with_reducible refine wbd (by assumption) ?_ | with_reducible refine wlssF (by omega) ?_ | with_reducible refine wgeqT (by omega) ?_ | dsimp only)
      exact W.ret ⟨OwnSl.nil _ _, Keep.refl _ _⟩
  obtain ⟨k, rfl⟩ := Int.eq_ofNat_of_zero_le hc.1
  have hk : k < cellsT s := by omega
  have hyes : nearTL (s : Int) (k : Int) = nearTS s k triSteps := by
    unfold nearTL; rw [Int.toNat_natCast, Int.toNat_natCast, decide_eq_true hs, decide_eq_true hc, nearTS_is s4 hk]; rfl
  rw [hyes]
  have eP := fun hh => triPlace_N g lf (k := k) (by omega) n (by omega) hlf hh
  obtain ⟨r1, r2⟩ := place_le (k := k) (by omega)
  have hin : ∀ d, inT s k d = (decide ((rowT k : Int) + d.1 < (s : Int)) && (decide (0 ≤ (plT k : Int) + d.2) && decide ((plT k : Int) + d.2 ≤ (rowT k : Int) + d.1))) := fun d => rfl
  have hca : ∀ d, cellAt k d = ((cellsT ((rowT k : Int) + d.1).toNat + ((plT k : Int) + d.2).toNat : Nat) : Int) := fun d => rfl
  obtain ⟨R, hR⟩ : ∃ R, R = rowT k := ⟨_, rfl⟩
  obtain ⟨P, hP⟩ : ∃ P, P = plT k := ⟨_, rfl⟩
  rw [← hR, ← hP] at eP r2
  rw [← hR] at r1
  rw [← hR, ← hP] at hin hca
  have eL := tri_load ht
  obtain ⟨T, hT⟩ : ∃ T, T = cellsT s := ⟨_, rfl⟩
  rw [← hT] at eS hc10 hc hk
  repeat (first | with_reducible refine wF ?_ | with_reducible refine wg1 rfl ?_ | with_reducible refine wpF ?_ | with_reducible refine wnT ?_ | with_reducible refine wpv ?_ | with_reducible refine wsm ?_ | with_reducible refine wx0 ?_ | with_reducible refine wx1 ?_ | with_reducible refine wbd (by assumption) ?_ | (with_reducible refine wbd (eP _) ?_) | with_reducible refine wlssF (by omega) ?_ | with_reducible refine wgeqF (by omega) ?_ | dsimp only)
  refine loopW (fun m st => ∃ (i : Nat) (q : PV) (h2 : PHeap), st = impl_TriangleNear.st0 (.int .i64 (s : Int)) (.int .i64 (R : Int)) (.int .i64 (P : Int)) q (.agg triCells) (.int .i64 (i : Int)) h2 ∧ i + m = 6 ∧ OwnSl h.length h2 q (nearTS s k (triSteps.take i)) ∧ Keep h.length h h2) ?_ lf 6 _ (by omega) ⟨0, .nilsl, h, rfl, rfl, OwnSl.nil _ _, Keep.refl _ _⟩
  rintro n1 m st ⟨i, q, h2, rfl, him, o2, k2⟩ next
  rw [impl_TriangleNear.body0_eq]
  unfold impl_TriangleNear.body0
  simp only [env_C, env_pick, env_alloc, env_buildSlice, env_load, env_store, env_bin, env_indexAddr, env_index, env_append]
  cases m with
  | zero =>
    have hi6 : i = 6 := by omega
    subst hi6
    have hr := o2.res
    repeat (first | with_reducible refine wF ?_ | with_reducible refine wbd (by assumption) ?_ | with_reducible refine wlssF (by omega) ?_ | rw [kLoop_exit] | rw [impl_TriangleNear.after0_se0_0_5_6_7_30_31_32])
    exact W.ret ⟨o2, k2⟩
  | succ m =>
    have hi : i < 6 := by omega
    have eI := tri_index i hi
    obtain ⟨t1, t2, t3, t4⟩ := tstp_small i
    have hnx := nearTS_next (s := s) (k := k) hi
    have hini := hin (tstp i)
    have hcai := hca (tstp i)
    have hll : (nearTS s k (triSteps.take i)).length + 1 ≤ 2 ^ 36 := by
      have := nearTS_len s k (triSteps.take i)
      rw [List.length_take] at this
      omega
    obtain ⟨d1, hd1⟩ : ∃ d1, d1 = (tstp i).1 := ⟨_, rfl⟩
    obtain ⟨d2, hd2⟩ : ∃ d2, d2 = (tstp i).2 := ⟨_, rfl⟩
    rw [← hd1, ← hd2] at eI hini hcai
    rw [← hd1] at t1 t2
    rw [← hd2] at t3 t4
    repeat (first | with_reducible refine wT ?_ | with_reducible refine wbd (by assumption) ?_ | with_reducible refine wlssT (by omega) ?_)
    refine walP fun h3 id o3 k3 l3 => ?_
    dsimp only
    refine wstP o3 fun h4 o4 k4 => ?_
    have k24 : Keep h2.length h2 h4 := k3.trans (k4.keep l3 k3.1)
    have q4 := o2.keep k24
    have kk := k2.trans (k24.mono k2.1)
    have p0 := pair_addr0 id
    have p1 := pair_addr1 id
    have u0 : loadP Tryd.prog 3 (.ptr id 0) h4 = some (.int .i64 d1) := ld1 o4 rfl
    have u1 : loadP Tryd.prog 3 (.ptr id 1) h4 = some (.int .i64 d2) := ld1 o4 rfl
    obtain ⟨y, hy⟩ : ∃ y, y = (R : Int) + d1 := ⟨_, rfl⟩
    obtain ⟨x, hx⟩ : ∃ x, x = (P : Int) + d2 := ⟨_, rfl⟩
    have fy : binP Tryd.prog .add 3 (.int .i64 (R : Int)) (.int .i64 d1) = some (.int .i64 y) := by rw [bin_add, wr (by omega), hy]
    have fx : binP Tryd.prog .add 3 (.int .i64 (P : Int)) (.int .i64 d2) = some (.int .i64 x) := by rw [bin_add, wr (by omega), hx]
    rw [← hy, ← hx] at hini hcai
    by_cases c1 : y < (s : Int)
    case neg =>
      rw [decide_eq_false c1, Bool.false_and] at hini
      rw [hini, if_neg (by decide), List.append_nil] at hnx
      repeat (first | with_reducible refine wF ?_ | with_reducible refine wg0 rfl ?_ | with_reducible refine wpF ?_ | with_reducible refine wsm ?_ | with_reducible refine wbd (by assumption) ?_ | with_reducible refine wadd1 (by omega) ?_ | with_reducible refine wlssF (by omega) ?_ | dsimp only)
      exact next _ _ (Nat.lt_succ_self m) ⟨i + 1, q, h4, rfl, by omega, by rw [hnx]; exact q4, kk⟩
    by_cases c2 : 0 ≤ x
    case neg =>
      rw [decide_eq_true c1, decide_eq_false c2, Bool.false_and, Bool.and_false] at hini
      rw [hini, if_neg (by decide), List.append_nil] at hnx
      repeat (first | with_reducible refine wF ?_ | with_reducible refine wg1 rfl ?_ | with_reducible refine wg0 rfl ?_ | with_reducible refine wpT ?_ | with_reducible refine wpF ?_ | with_reducible refine wpv ?_ | with_reducible refine wsm ?_ | with_reducible refine wbd (by assumption) ?_ | with_reducible refine wadd1 (by omega) ?_ | with_reducible refine wlssT (by omega) ?_ | with_reducible refine wgeqF (by omega) ?_ | dsimp only)
      exact next _ _ (Nat.lt_succ_self m) ⟨i + 1, q, h4, rfl, by omega, by rw [hnx]; exact q4, kk⟩
    by_cases c3' : x ≤ y
    case neg =>
      rw [decide_eq_true c1, decide_eq_true c2, decide_eq_false c3', Bool.and_false, Bool.and_false] at hini
      rw [hini, if_neg (by decide), List.append_nil] at hnx
      repeat (first | with_reducible refine wF ?_ | with_reducible refine wg1 rfl ?_ | with_reducible refine wpT ?_ | with_reducible refine wpv ?_ | with_reducible refine wsm ?_ | with_reducible refine wbd (by assumption) ?_ | with_reducible refine wadd1 (by omega) ?_ | with_reducible refine wlssT (by omega) ?_ | with_reducible refine wleqF (by omega) ?_ | with_reducible refine wgeqT (by omega) ?_ | dsimp only)
      exact next _ _ (Nat.lt_succ_self m) ⟨i + 1, q, h4, rfl, by omega, by rw [hnx]; exact q4, kk⟩
    rw [decide_eq_true c1, decide_eq_true c2, decide_eq_true c3'] at hini
    rw [hini, Bool.and_self, Bool.and_self, if_pos rfl] at hnx
    obtain ⟨Y, rfl⟩ := Int.eq_ofNat_of_zero_le (show 0 ≤ y by omega)
    obtain ⟨X, rfl⟩ := Int.eq_ofNat_of_zero_le c2
    have eC := triCell_N g lf (r := Y) (p := X) (by omega) (by omega) n (by omega) h4
    rw [Int.toNat_natCast, Int.toNat_natCast] at hcai
    rw [← hcai] at eC
    obtain ⟨v, hv⟩ : ∃ v, v = cellAt k (tstp i) := ⟨_, rfl⟩
    rw [← hv] at eC hnx
    repeat (first | with_reducible refine wT ?_ | with_reducible refine wg1 rfl ?_ | with_reducible refine wpT ?_ | with_reducible refine wpv ?_ | with_reducible refine wsm ?_ | with_reducible refine wbd (by assumption) ?_ | (refine wap q4 kk.1 hll fun p' h6 o6 k6 => ?_) | with_reducible refine wadd1 (by omega) ?_ | with_reducible refine wlssT (by omega) ?_ | with_reducible refine wleqT (by omega) ?_ | with_reducible refine wgeqT (by omega) ?_ | dsimp only)
    exact next _ _ (Nat.lt_succ_self m) ⟨i + 1, p', h6, rfl, by omega, by rw [hnx]; exact o6, kk.trans k6⟩

/-! ### waves -/
set_option maxHeartbeats 1000000 in
theorem around_W {s X : Nat} (s1 : 1 ≤ s) (s4 : s ≤ 4) (hX : X < 2 ^ cellsT s) (hb : Big g) (N : Nat) (hN : 8 ≤ N) (hlf : 4000 < lf) {h : PHeap} (ht : TabT g h) :
    W (CL g lf N fn_impl_triangleAround [.int .i64 (s : Int), .int .i64 (X : Int)] h) fun v h' => v = .int .i64 (aroundT s X : Int) ∧ aroundT s X < 2 ^ 10 ∧ Keep h.length h h' := by
  obtain ⟨n, rfl⟩ : ∃ n, N = n + 1 := ⟨N - 1, by omega⟩
  have hc10 := cellsT_le s4
  have hpow : 2 ^ cellsT s ≤ 2 ^ 10 := Nat.pow_le_pow_right (by decide) hc10
  obtain ⟨G, hG⟩ : ∃ G, G = aroundT s X := ⟨_, rfl⟩
  rw [← hG]
  have hG' : aroundF s 1024 X 0 = G := hG.symm
  rw [impl_triangleAround.call_eq]
  unfold impl_triangleAround.main
  simp only [env_lf]
  refine loopW (fun m st => ∃ (rest acc : Nat) (h2 : PHeap), st = impl_triangleAround.st0 (.int .i64 (s : Int)) (.int .i64 (acc : Int)) (.int .i64 (rest : Int)) h2 ∧ rest < m ∧ rest < 2 ^ cellsT s ∧ acc < 2 ^ 10 ∧ aroundF s m rest acc = G ∧ Keep h.length h h2) ?_ lf 1024 _ (by omega) ⟨X, 0, h, rfl, by omega, hX, by decide, hG', Keep.refl _ _⟩
  rintro n1 m st ⟨rest, acc, h2, rfl, hrm, hr, hacc, hF, k2⟩ next
  rw [impl_triangleAround.body0_eq]
  unfold impl_triangleAround.body0
  simp only [env_C, env_lf, env_bin, env_len]
  obtain ⟨m, rfl⟩ : ∃ m', m = m' + 1 := ⟨m - 1, by omega⟩
  rw [aroundF] at hF
  by_cases h0 : rest = 0
  · rw [if_pos h0] at hF
    subst h0
    have hGb : G < 2 ^ 10 := hF ▸ hacc
    repeat (first | with_reducible refine wF ?_ | with_reducible refine wrI ?_ | with_reducible refine wneqF (by omega) ?_ | rw [kLoop_exit] | rw [impl_triangleAround.after0_se0_0_5_6_11])
    rw [hF]
    exact W.ret ⟨rfl, hGb, k2⟩
  · rw [if_neg h0] at hF
    have hr10 : rest < 2 ^ 10 := by omega
    have ht2 := ht.keep k2
    obtain ⟨hbit, hl10⟩ := lowT_ok hr10 h0
    have eL := leastInT_W g lf hr10 h0 hb ht2.2 n (by omega)
    have hlc : lowT rest < cellsT s := by
      rcases Nat.lt_or_ge (lowT rest) (cellsT s) with e | e
      · exact e
      · have := Nat.testBit_lt_two_pow (Nat.lt_of_lt_of_le hr (Nat.pow_le_pow_right (by decide) e))
        rw [hbit] at this; cases this
    obtain ⟨K, hK⟩ : ∃ K, K = lowT rest := ⟨_, rfl⟩
    rw [← hK] at eL hl10 hlc hF
    obtain ⟨q, h3, eN, o3, k3⟩ := triNear_W g lf n (by omega) (by omega) (s : Int) (K : Int) ht2
    have hN' : nearTL (s : Int) (K : Int) = listT (maskT s K) := by
      unfold nearTL; rw [Int.toNat_natCast, Int.toNat_natCast, decide_eq_true (by omega : 1 ≤ (s : Int) ∧ (s : Int) ≤ 4), decide_eq_true (by omega : 0 ≤ (K : Int) ∧ (K : Int) < (cellsT s : Int))]; rfl
    rw [hN'] at o3
    have hM := maskT_lt (s := s) (a := K) s4
    obtain ⟨M, hMM⟩ : ∃ M, M = maskT s K := ⟨_, rfl⟩
    rw [← hMM] at o3 hM hF
    have hmem := fun e => listT_mem hM e
    have hL10 := listT_len M
    obtain ⟨L, hL⟩ : ∃ L, L = listT M := ⟨_, rfl⟩
    rw [← hL] at o3 hmem hL10
    have hlen := o3.int.len'
    have kk := k2.trans (k3.mono k2.1)
    repeat (first | with_reducible refine wT ?_ | with_reducible refine wbd (by assumption) ?_ | with_reducible refine wneqT (by omega) ?_ | dsimp only)
    refine loopW (fun m2 st => ∃ (i a : Nat), st = impl_triangleAround.st1 (.int .i64 (s : Int)) (.int .i64 (a : Int)) (.int .i64 (rest : Int)) q (.int .i64 (L.length : Int)) (.int .i64 (i : Int)) h3 ∧ i + m2 = L.length ∧ a < 2 ^ 10 ∧ ∀ j : Nat, a.testBit j = true ↔ acc.testBit j = true ∨ (j : Int) ∈ L.take i) ?_ lf L.length _ (by omega) ⟨0, acc, rfl, by omega, hacc, fun j => by simp⟩
    rintro n2 m2 st ⟨i, a, rfl, him, ha, hbits⟩ next2
    rw [impl_triangleAround.body1_eq]
    unfold impl_triangleAround.body1
    simp only [env_load, env_bin, env_indexAddr]
    cases m2 with
    | zero =>
      have haM : a = acc ||| M := by
        apply Nat.eq_of_testBit_eq
        intro j
        rw [Bool.eq_iff_iff, hbits, Nat.testBit_or, Bool.or_eq_true, List.take_of_length_le (by omega), hmem]
        constructor
        · rintro (e | ⟨j', e, e2⟩)
          · exact .inl e
          · have : j = j' := by omega
            subst this; exact .inr e2
        · rintro (e | e)
          · exact .inl e
          · exact .inr ⟨j, rfl, e⟩
      rw [← haM] at hF
      have hr1 : 1 ≤ rest := by omega
      have hr62 : rest < 2 ^ 62 := by omega
      have hr62' : rest - 1 < 2 ^ 62 := by omega
      have hle : rest &&& (rest - 1) ≤ rest - 1 := Nat.and_le_right
      repeat (first | with_reducible refine wF ?_ | (with_reducible refine wsub1 hr1 (by omega) ?_) | (with_reducible refine wand hr62 hr62' ?_) | with_reducible refine wlssF (by omega) ?_ | rw [kLoop_exit] | rw [impl_triangleAround.after1_se2_0_5_6_19_20_21_22] | simp only [env_C, env_g, env_lf, env_pick, env_alloc, env_box, env_build, env_buildSlice, env_load, env_store, env_ptr, env_bin, env_un, env_conv, env_make, env_slice, env_fieldAddr, env_field, env_indexAddr, env_index, env_extract, env_len, env_append, env_max, env_min, env_makeMap, env_lookup, env_update])
      exact next m _ (Nat.lt_succ_self m) ⟨rest &&& (rest - 1), a, h3, rfl, by omega, by omega, ha, hF, kk⟩
    | succ m2 =>
      have hi : i < L.length := by omega
      obtain ⟨p, ep, lp⟩ := o3.int.at' hi
      obtain ⟨J, hJ, hJb⟩ := (hmem L[i]).1 (List.getElem_mem hi)
      have hJ10 : J < 10 := by
        rcases Nat.lt_or_ge J 10 with e | e
        · exact e
        · rw [Nat.testBit_lt_two_pow (Nat.lt_of_lt_of_le hM (Nat.pow_le_pow_right (by decide) e))] at hJb; cases hJb
      rw [hJ] at lp
      have hJ30 : J ≤ 30 := by omega
      have h1J : 1 <<< J < 2 ^ 10 := by rw [Nat.one_shiftLeft]; exact Nat.pow_lt_pow_right (by decide) (by omega)
      have ha62 : a < 2 ^ 62 := by omega
      have h1J62 : 1 <<< J < 2 ^ 62 := by omega
      repeat (first | with_reducible refine wT ?_ | with_reducible refine wbd (by assumption) ?_ | (with_reducible refine wshl hJ30 ?_) | (with_reducible refine wor ha62 h1J62 ?_) | with_reducible refine wadd1 (by omega) ?_ | with_reducible refine wlssT (by omega) ?_)
      refine next2 _ _ (Nat.lt_succ_self m2) ⟨i + 1, a ||| (1 <<< J), rfl, by omega, Nat.or_lt_two_pow ha h1J, fun j => ?_⟩
      rw [with_bit, Bool.or_eq_true, hbits, List.take_add_one, List.getElem?_eq_getElem hi, hJ, List.mem_append, decide_eq_true_iff, or_assoc]
      simp only [Option.toList_some, List.mem_singleton, Int.natCast_inj]

set_option maxHeartbeats 1000000 in
theorem wave_W {s X thr : Nat} (s1 : 1 ≤ s) (s4 : s ≤ 4) (hX : X < 2 ^ cellsT s) (hthr : thr < 2 ^ cellsT s) (hb : Big g) (N : Nat) (hN : 9 ≤ N) (hlf : 4000 < lf) {h : PHeap} (ht : TabT g h) :
    W (CL g lf N fn_impl_triangleWave [.int .i64 (s : Int), .int .i64 (X : Int), .int .i64 (thr : Int)] h) fun v h' => v = .int .i64 (waveT s X thr : Int) ∧ Keep h.length h h' := by
  obtain ⟨n, rfl⟩ : ∃ n, N = n + 1 := ⟨N - 1, by omega⟩
  have hc10 := cellsT_le s4
  have hpow : 2 ^ cellsT s ≤ 2 ^ 10 := Nat.pow_le_pow_right (by decide) hc10
  obtain ⟨G, hG⟩ : ∃ G, G = waveT s X thr := ⟨_, rfl⟩
  rw [← hG]
  have hG' : waveF s thr 3000 X X = G := hG.symm
  rw [impl_triangleWave.call_eq]
  unfold impl_triangleWave.main
  simp only [env_lf]
  refine loopW (fun m st => ∃ (w set : Nat) (h2 : PHeap), st = impl_triangleWave.st0 (.int .i64 (s : Int)) (.int .i64 (set : Int)) (.int .i64 (thr : Int)) (.int .i64 (w : Int)) h2 ∧ (w = 0 ∧ 1 ≤ m ∨ 2 * (1024 - set) + 2 ≤ m) ∧ w < 2 ^ cellsT s ∧ set < 2 ^ cellsT s ∧ waveF s thr m w set = G ∧ Keep h.length h h2) ?_ lf 3000 _ (by omega) ⟨X, X, h, rfl, .inr (by omega), hX, hX, hG', Keep.refl _ _⟩
  rintro n1 m st ⟨w, set, h2, rfl, hm, hw, hset, hF, k2⟩ next
  rw [impl_triangleWave.body0_eq]
  unfold impl_triangleWave.body0
  simp only [env_C, env_bin]
  obtain ⟨m, rfl⟩ : ∃ m', m = m' + 1 := ⟨m - 1, by omega⟩
  rw [waveF] at hF
  by_cases h0 : w = 0
  · rw [if_pos h0] at hF
    subst h0
    repeat (first | with_reducible refine wF ?_ | with_reducible refine wrI ?_ | with_reducible refine wneqF (by omega) ?_ | rw [kLoop_exit] | rw [impl_triangleWave.after0_se0_0_1_2_7_10])
    rw [hF]
    exact W.ret ⟨rfl, k2⟩
  · rw [if_neg h0] at hF
    have hm' : 2 * (1024 - set) + 2 ≤ m + 1 := by omega
    have eA := around_W g lf s1 s4 hw hb n (by omega) hlf (ht.keep k2)
    obtain ⟨A, hA⟩ : ∃ A, A = aroundT s w := ⟨_, rfl⟩
    rw [← hA] at eA hF
    repeat (first | with_reducible refine wT ?_ | with_reducible refine wneqT (by omega) ?_)
    refine wcall eA fun v h3 ⟨hv, hA10, k3⟩ => ?_
    subst hv
    have hAt : A &&& thr < 2 ^ cellsT s := Nat.lt_of_le_of_lt Nat.and_le_right hthr
    have hmn := minusN_lt (y := set) hAt
    obtain ⟨Y, hY⟩ : ∃ Y, Y = A &&& thr := ⟨_, rfl⟩
    have hmore := fun hne => wave_more (set := set) (w := set ||| minusN Y set) (thr := Y) hne rfl
    obtain ⟨w', hw'⟩ : ∃ w', w' = minusN Y set := ⟨_, rfl⟩
    rw [← hY] at hF hmn hAt
    rw [← hw'] at hF hmn hmore
    have hor := Nat.or_lt_two_pow hset hmn
    obtain ⟨set', hset'⟩ : ∃ set', set' = set ||| w' := ⟨_, rfl⟩
    rw [← hset'] at hF hor hmore
    have b1 : A < 2 ^ 62 := by omega
    have b2 : thr < 2 ^ 62 := by omega
    have b3 : Y < 2 ^ 62 := by omega
    have b4 : set < 2 ^ 62 := by omega
    have b5 : w' < 2 ^ 62 := by omega
    have kk := k2.trans (k3.mono k2.1)
    have nxt := next m (impl_triangleWave.st0 (.int .i64 (s : Int)) (.int .i64 (set' : Int)) (.int .i64 (thr : Int)) (.int .i64 (w' : Int)) h3) (Nat.lt_succ_self m) ⟨w', set', h3, rfl, by
      by_cases hz : w' = 0
      · exact .inl ⟨hz, by omega⟩
      · have := hmore hz
        exact .inr (by omega), hmn, hor, hF, kk⟩
    repeat (first | (with_reducible refine wand b1 b2 ?_) | (rw [← hY]) | (with_reducible refine wandNot b3 b4 ?_) | (rw [← hw']) | (with_reducible refine wor b4 b5 ?_) | (rw [← hset']) | dsimp only)
    exact nxt

theorem edgeF_lt {f : Nat → Nat} : ∀ (m : Nat), (∀ i, i < m → f i < 10) → edgeF f m < 2 ^ 10
  | 0, _ => by show (0 : Nat) < 2 ^ 10; decide
  | m + 1, h => Nat.or_lt_two_pow (edgeF_lt m fun i hi => h i (by omega)) (by rw [Nat.one_shiftLeft]; exact Nat.pow_lt_pow_right (by decide) (h m (by omega)))
theorem edge_all : ((List.range 5).all fun s => (List.range s).all fun r => decide (cellsT r < 10) && (decide (cellsT r + r < 10) && decide (cellsT (s - 1) + r < 10))) = true := by kernel_rfl
theorem edge_at {s r : Nat} (hs : s ≤ 4) (hr : r < s) : cellsT r < 10 ∧ cellsT r + r < 10 ∧ cellsT (s - 1) + r < 10 := by
  have := List.all_eq_true.1 (List.all_eq_true.1 edge_all s (List.mem_range.2 (by omega))) r (List.mem_range.2 hr)
  simpa using this

set_option maxHeartbeats 1000000 in
theorem edges_W {s : Nat} (s1 : 1 ≤ s) (s4 : s ≤ 4) (N : Nat) (hN : 3 ≤ N) (hlf : 20 < lf) (h : PHeap) :
    W (CL g lf N fn_impl_triangleEdges [.int .i64 (s : Int)] h) fun v h' => v = .agg (c3 (edgeT s 0) (edgeT s 1) (edgeT s 2)) ∧ Keep h.length h h' := by
  obtain ⟨n, rfl⟩ : ∃ n, N = n + 1 := ⟨N - 1, by omega⟩
  rw [impl_triangleEdges.call_eq]
  unfold impl_triangleEdges.main
  simp only [env_lf, env_alloc]
  refine wal3 fun h1 id1 o1 k1 l1 => ?_
  dsimp only
  refine wal3 fun h2 id2 o2 k2 l2 => ?_
  have o12 := o1.keep k2
  have hne : id1 ≠ id2 := by have := o1.lt; omega
  have kk := k1.trans (k2.mono k1.1)
  have l2' : h.length ≤ id2 := Nat.le_trans k1.1 l2
  dsimp only
  refine loopW (fun m st => ∃ (r : Nat) (h3 : PHeap), st = impl_triangleEdges.st0 (.int .i64 (s : Int)) (.ptr id1 0) (.ptr id2 0) (.int .i64 (s : Int)) (.int .i64 (r : Int)) h3 ∧ r + m = s ∧ At h3 id1 (c3 0 0 0) ∧ At h3 id2 (c3 (edgeF (edgeK s 0) r) (edgeF (edgeK s 1) r) (edgeF (edgeK s 2) r)) ∧ Keep h.length h h3) ?_ lf s _ (by omega) ⟨0, h2, rfl, by omega, o12, o2, kk⟩
  rintro n1 m st ⟨r, h3, rfl, hrm, a1, a2, k3⟩ next
  rw [impl_triangleEdges.body0_eq]
  unfold impl_triangleEdges.body0
  simp only [env_C, env_load, env_store, env_bin, env_indexAddr]
  cases m with
  | zero =>
    have hrs : r = s := by omega
    subst hrs
    have eL := ldA3 a2
    repeat (first | with_reducible refine wF ?_ | with_reducible refine wbd (by assumption) ?_ | with_reducible refine wlssF (by omega) ?_ | rw [kLoop_exit] | rw [impl_triangleEdges.after0_se0_0_2_3_5_6_7] | simp only [env_C, env_g, env_lf, env_pick, env_alloc, env_box, env_build, env_buildSlice, env_load, env_store, env_ptr, env_bin, env_un, env_conv, env_make, env_slice, env_fieldAddr, env_field, env_indexAddr, env_index, env_extract, env_len, env_append, env_max, env_min, env_makeMap, env_lookup, env_update])
    refine wstA3 a1 fun h4 o4 k4 => ?_
    have eL2 := ldA3 o4
    repeat (first | with_reducible refine wbd (by assumption) ?_ | (with_reducible exact W.ret ⟨rfl, k3.kbs (Nat.le_refl _) k4 l1⟩))
  | succ m =>
    have hr : r < s := by omega
    obtain ⟨z1, z2, z3⟩ := edge_at s4 hr
    have eC0 := fun hh => triCell0_N g lf (r := r) (by omega) n (by omega) hh
    have eC1 := fun hh => triCell_N g lf (r := r) (p := r) (by omega) (by omega) n (by omega) hh
    have eC2 := fun hh => triCell_N g lf (r := s - 1) (p := r) (by omega) (by omega) n (by omega) hh
    have f0 : edgeF (edgeK s 0) (r + 1) = edgeF (edgeK s 0) r ||| (1 <<< cellsT r) := rfl
    have f1 : edgeF (edgeK s 1) (r + 1) = edgeF (edgeK s 1) r ||| (1 <<< (cellsT r + r)) := rfl
    have f2 : edgeF (edgeK s 2) (r + 1) = edgeF (edgeK s 2) r ||| (1 <<< (cellsT (s - 1) + r)) := rfl
    have y0 : edgeF (edgeK s 0) r < 2 ^ 10 := edgeF_lt r fun i hi => (edge_at s4 (show i < s by omega)).1
    have y1 : edgeF (edgeK s 1) r < 2 ^ 10 := edgeF_lt r fun i hi => (edge_at s4 (show i < s by omega)).2.1
    have y2 : edgeF (edgeK s 2) r < 2 ^ 10 := edgeF_lt r fun i hi => (edge_at s4 (show i < s by omega)).2.2
    obtain ⟨w0, hw0⟩ : ∃ w, w = cellsT r := ⟨_, rfl⟩
    obtain ⟨w1, hw1⟩ : ∃ w, w = cellsT r + r := ⟨_, rfl⟩
    obtain ⟨w2, hw2⟩ : ∃ w, w = cellsT (s - 1) + r := ⟨_, rfl⟩
    rw [← hw0] at f0 eC0 z1
    rw [← hw1] at f1 eC1 z2
    rw [← hw2] at f2 eC2 z3
    obtain ⟨x0, hx0⟩ : ∃ x, x = edgeF (edgeK s 0) r := ⟨_, rfl⟩
    obtain ⟨x1, hx1⟩ : ∃ x, x = edgeF (edgeK s 1) r := ⟨_, rfl⟩
    obtain ⟨x2, hx2⟩ : ∃ x, x = edgeF (edgeK s 2) r := ⟨_, rfl⟩
    rw [← hx0] at f0 y0
    rw [← hx1] at f1 y1
    rw [← hx2] at f2 y2
    rw [← hx0, ← hx1, ← hx2] at a2
    have v0 : w0 ≤ 30 := by omega
    have v1 : w1 ≤ 30 := by omega
    have v2 : w2 ≤ 30 := by omega
    have t0 : 1 <<< w0 < 2 ^ 62 := by rw [Nat.one_shiftLeft]; exact Nat.pow_lt_pow_right (by decide) (by omega)
    have t1 : 1 <<< w1 < 2 ^ 62 := by rw [Nat.one_shiftLeft]; exact Nat.pow_lt_pow_right (by decide) (by omega)
    have t2 : 1 <<< w2 < 2 ^ 62 := by rw [Nat.one_shiftLeft]; exact Nat.pow_lt_pow_right (by decide) (by omega)
    have y0' : x0 < 2 ^ 62 := by omega
    have y1' : x1 < 2 ^ 62 := by omega
    have y2' : x2 < 2 ^ 62 := by omega
    have hs1 : 1 ≤ s := s1
    repeat (first | with_reducible refine wT ?_ | with_reducible refine wck plain_int ?_ | (with_reducible refine wi30 ?_) | (with_reducible refine wld (by assumption) rfl ?_) | (with_reducible refine wbd (eC0 _) ?_) | (with_reducible refine wshl v0 ?_) | (with_reducible refine wor y0' t0 ?_) | with_reducible refine wlssT (by omega) ?_ | dsimp only)
    refine wst1 a2 (show 0 < 3 by decide) fun h4 o4 k4 => ?_
    have o4 : At h4 id2 (c3 (x0 ||| (1 <<< w0)) x1 x2) := o4
    repeat (first | with_reducible refine wck plain_int ?_ | (with_reducible refine wi31 ?_) | (with_reducible refine wld (by assumption) rfl ?_) | (with_reducible refine wbd (eC1 _) ?_) | (with_reducible refine wshl v1 ?_) | (with_reducible refine wor y1' t1 ?_) | dsimp only)
    refine wst1 o4 (show 1 < 3 by decide) fun h5 o5 k5 => ?_
    have o5 : At h5 id2 (c3 (x0 ||| (1 <<< w0)) (x1 ||| (1 <<< w1)) x2) := o5
    repeat (first | with_reducible refine wck plain_int ?_ | (with_reducible refine wi32 ?_) | (with_reducible refine wld (by assumption) rfl ?_) | (with_reducible refine wbd (eC2 _) ?_) | (with_reducible refine wsub1 hs1 (by omega) ?_) | (with_reducible refine wshl v2 ?_) | (with_reducible refine wor y2' t2 ?_) | dsimp only)
    refine wst1 o5 (show 2 < 3 by decide) fun h6 o6 k6 => ?_
    have o6 : At h6 id2 (c3 (x0 ||| (1 <<< w0)) (x1 ||| (1 <<< w1)) (x2 ||| (1 <<< w2))) := o6
    repeat (first | with_reducible refine wadd1 (by omega) ?_)
    refine next m _ (Nat.lt_succ_self m) ⟨r + 1, h6, rfl, by omega, ((a1.kb k4 hne).kb k5 hne).kb k6 hne, ?_, ((k3.kbs (Nat.le_refl _) k4 l2').kbs (Nat.le_refl _) k5 l2').kbs (Nat.le_refl _) k6 l2'⟩
    rw [f0, f1, f2]; exact o6

theorem i3_0 (a b c : Nat) : indexP Tryd.prog 58 (.agg (c3 a b c)) (.int .i64 ((0 : Nat) : Int)) = some (.int .i64 (a : Int)) := by kernel_rfl
theorem i3_1 (a b c : Nat) : indexP Tryd.prog 58 (.agg (c3 a b c)) (.int .i64 ((1 : Nat) : Int)) = some (.int .i64 (b : Int)) := by kernel_rfl
theorem i3_2 (a b c : Nat) : indexP Tryd.prog 58 (.agg (c3 a b c)) (.int .i64 ((2 : Nat) : Int)) = some (.int .i64 (c : Int)) := by kernel_rfl
theorem edgeT_lt {s i : Nat} (s4 : s ≤ 4) (hi : i < 3) : edgeT s i < 2 ^ 10 := by
  have : i = 0 ∨ i = 1 ∨ i = 2 := by omega
  rcases this with rfl | rfl | rfl
  · exact edgeF_lt s fun r hr => (edge_at s4 hr).1
  · exact edgeF_lt s fun r hr => (edge_at s4 hr).2.1
  · exact edgeF_lt s fun r hr => (edge_at s4 hr).2.2

set_option maxHeartbeats 1000000 in
theorem touches_W {s own : Nat} (s1 : 1 ≤ s) (s4 : s ≤ 4) (hown : own < 2 ^ cellsT s) (hb : Big g) (N : Nat) (hN : 10 ≤ N) (hlf : 4000 < lf) {h : PHeap} (ht : TabT g h) :
    W (CL g lf N fn_impl_touchesAll [.int .i64 (s : Int), .int .i64 (own : Int)] h) fun v h' => v = .bool (lastT s own) ∧ Keep h.length h h' := by
  obtain ⟨n, rfl⟩ : ∃ n, N = n + 1 := ⟨N - 1, by omega⟩
  have hpow : 2 ^ cellsT s ≤ 2 ^ 10 := Nat.pow_le_pow_right (by decide) (cellsT_le s4)
  have hv := beq_iff_eq.1 (allTri_at touch_all s1 s4 hown)
  rw [← hv]
  rw [impl_touchesAll.call_eq]
  unfold impl_touchesAll.main
  simp only [env_C, env_lf]
  refine wcall (edges_W g lf s1 s4 n (by omega) (by omega) h) fun v h1 ⟨hv1, k1⟩ => ?_
  subst hv1
  dsimp only
  refine loopW (fun m st => ∃ (i : Nat) (h2 : PHeap), st = impl_touchesAll.st0 (.int .i64 (s : Int)) (.int .i64 (grpT s own i : Int)) (.agg (c3 (edgeT s 0) (edgeT s 1) (edgeT s 2))) (.int .i64 (i : Int)) h2 ∧ i + m = 3 ∧ Keep h.length h h2) ?_ lf 3 _ (by omega) ⟨0, h1, rfl, rfl, k1⟩
  rintro n1 m st ⟨i, h2, rfl, him, k2⟩ next
  rw [impl_touchesAll.body0_eq]
  unfold impl_touchesAll.body0
  simp only [env_C, env_bin, env_index]
  have hg := grpT_lt (s := s) hown i
  cases m with
  | zero =>
    have hi3 : i = 3 := by omega
    subst hi3
    have ht' : touchT s own = !decide (grpT s own 3 = 0) := rfl
    obtain ⟨G, hG⟩ : ∃ G, G = grpT s own 3 := ⟨_, rfl⟩
    rw [← hG] at hg ht' ⊢
    by_cases h0 : G = 0
    · rw [decide_eq_true h0] at ht'
      rw [ht']
      repeat (first | with_reducible refine wF ?_ | with_reducible refine wrB ?_ | with_reducible refine wlssF (by omega) ?_ | with_reducible refine wneqF (by omega) ?_ | rw [kLoop_exit] | rw [impl_touchesAll.after0_se0_0_5_10_11_12] | simp only [env_C, env_g, env_lf, env_pick, env_alloc, env_box, env_build, env_buildSlice, env_load, env_store, env_ptr, env_bin, env_un, env_conv, env_make, env_slice, env_fieldAddr, env_field, env_indexAddr, env_index, env_extract, env_len, env_append, env_max, env_min, env_makeMap, env_lookup, env_update])
      exact W.ret ⟨rfl, k2⟩
    · rw [decide_eq_false h0] at ht'
      rw [ht']
      repeat (first | with_reducible refine wF ?_ | with_reducible refine wrB ?_ | with_reducible refine wlssF (by omega) ?_ | with_reducible refine wneqT (by omega) ?_ | rw [kLoop_exit] | rw [impl_touchesAll.after0_se0_0_5_10_11_12] | simp only [env_C, env_g, env_lf, env_pick, env_alloc, env_box, env_build, env_buildSlice, env_load, env_store, env_ptr, env_bin, env_un, env_conv, env_make, env_slice, env_fieldAddr, env_field, env_indexAddr, env_index, env_extract, env_len, env_append, env_max, env_min, env_makeMap, env_lookup, env_update])
      exact W.ret ⟨rfl, k2⟩
  | succ m =>
    have hi : i < 3 := by omega
    have eI : indexP Tryd.prog 58 (.agg (c3 (edgeT s 0) (edgeT s 1) (edgeT s 2))) (.int .i64 (i : Int)) = some (.int .i64 (edgeT s i : Int)) := by
      have : i = 0 ∨ i = 1 ∨ i = 2 := by omega
      rcases this with rfl | rfl | rfl
      · exact i3_0 _ _ _
      · exact i3_1 _ _ _
      · exact i3_2 _ _ _
    have he := edgeT_lt (s := s) (i := i) s4 hi
    have hgs : grpT s own (i + 1) = waveT s (edgeT s i &&& grpT s own i) (grpT s own i) := rfl
    have hx : edgeT s i &&& grpT s own i < 2 ^ cellsT s := Nat.lt_of_le_of_lt Nat.and_le_right hg
    have eW := wave_W g lf s1 s4 hx hg hb n (by omega) hlf (ht.keep k2)
    have nxt := fun h3 k3 => next m (impl_touchesAll.st0 (.int .i64 (s : Int)) (.int .i64 (grpT s own (i + 1) : Int)) (.agg (c3 (edgeT s 0) (edgeT s 1) (edgeT s 2))) (.int .i64 ((i + 1 : Nat) : Int)) h3) (Nat.lt_succ_self m) ⟨i + 1, h3, rfl, by omega, k3⟩
    rw [hgs] at nxt
    obtain ⟨E, hE⟩ : ∃ E, E = edgeT s i := ⟨_, rfl⟩
    rw [← hE] at eI he eW nxt
    obtain ⟨G, hG⟩ : ∃ G, G = grpT s own i := ⟨_, rfl⟩
    rw [← hG] at hg eW nxt ⊢
    have b1 : E < 2 ^ 62 := by omega
    have b2 : G < 2 ^ 62 := by omega
    generalize (.agg (c3 (edgeT s 0) (edgeT s 1) (edgeT s 2)) : PV) = AG at eI nxt ⊢
    repeat (first | with_reducible refine wT ?_ | with_reducible refine wbd (by assumption) ?_ | (with_reducible refine wand b1 b2 ?_) | with_reducible refine wlssT (by omega) ?_)
    refine wcall eW fun v h3 ⟨hv, k3⟩ => ?_
    subst hv
    repeat (first | with_reducible refine wadd1 (by omega) ?_ | dsimp only)
    exact nxt h3 (k2.trans (k3.mono k2.1))

theorem joinsAllOk (hbig : Big g) (hlf : 4000 < lf) (hT : ∀ h, TabOk g h → TabT g h) : JoinsAllOk7 g lf := by
  intro N hN side pl xs p h ht hp hl hf
  obtain ⟨n, rfl⟩ : ∃ n, N = n + 1 := ⟨N - 1, by omega⟩
  have : W (CL g lf (n + 1) fn_impl_JoinsAll [.int .i64 side, p, .int .i64 pl] h) fun v h' => v = .bool (joinsAllL side xs pl) ∧ Keep h.length h h' := by
    have eT := triangleOk_N g lf n (by omega) side hp hl hf
    have eP := playerOk_W g lf n (by omega) h pl
    have hJ : joinsAllL side xs pl = (triB side xs && playerB pl && joinT side.toNat (setL xs pl)) := rfl
    rw [hJ]
    rw [impl_JoinsAll.call_eq]
    unfold impl_JoinsAll.main
    simp only [env_C, env_pick]
    cases hb : triB side xs with
    | false =>
      rw [hb] at eT
      rw [Bool.false_and, Bool.false_and]
      repeat (first | with_reducible refine wg0 rfl ?_ | with_reducible refine wpF ?_ | with_reducible refine wsm ?_ | with_reducible refine wrB ?_ | with_reducible refine wbd (by assumption) ?_ | dsimp only)
      exact W.ret ⟨rfl, Keep.refl _ _⟩
    | true =>
      rw [hb] at eT
      cases hpl : playerB pl with
      | false =>
        rw [hpl] at eP
        rw [Bool.and_false, Bool.false_and]
        repeat (first | with_reducible refine wg1 rfl ?_ | with_reducible refine wg0 rfl ?_ | with_reducible refine wpT ?_ | with_reducible refine wpF ?_ | with_reducible refine wsm ?_ | with_reducible refine wrB ?_ | with_reducible refine wbd (by assumption) ?_ | dsimp only)
        exact W.ret ⟨rfl, Keep.refl _ _⟩
      | true =>
        rw [hpl] at eP
        obtain ⟨s, A, hTr⟩ := tri_of hb
        obtain ⟨rfl, s1, s4, hA, hx, hlen, _, _⟩ := id hTr
        have hc10 := cellsT_le s4
        have eS := setOf_W g lf pl hp (by omega) n (by omega) (by omega)
        have hlt : setL xs pl < 2 ^ cellsT s := setL_lt pl (by omega)
        have hjo := beq_iff_eq.1 (allTri_at join_all s1 s4 hlt)
        rw [Int.toNat_natCast, Bool.and_self, Bool.true_and, hjo]
        obtain ⟨own, hown⟩ : ∃ own, own = setL xs pl := ⟨_, rfl⟩
        rw [← hown] at eS hlt ⊢
        repeat (first | with_reducible refine wg1 rfl ?_ | with_reducible refine wpT ?_ | with_reducible refine wsm ?_ | with_reducible refine wbd (by assumption) ?_ | dsimp only)
        refine wcall (touches_W g lf s1 s4 hlt hbig n (by omega) hlf (hT h ht)) fun v h1 ⟨hv, k1⟩ => ?_
        subst hv
        repeat (first | with_reducible refine wpT ?_ | with_reducible refine wrB ?_ | dsimp only)
        exact W.ret ⟨rfl, k1⟩
  obtain ⟨_, h', e, rfl, k⟩ := this
  exact ⟨h', e, k⟩

set_option maxHeartbeats 1000000 in
theorem triangleWinsOk (hbig : Big g) (hlf : 4000 < lf) (hT : ∀ h, TabOk g h → TabT g h) : TriangleWinsOk7 g lf := by
  intro N hN side f h ht
  obtain ⟨n, rfl⟩ : ∃ n, N = n + 1 := ⟨N - 1, by omega⟩
  have : W (CL g lf (n + 1) fn_impl_TriangleWins [.int .i64 side, .int .i64 f] h) fun v h' => v = .int .i64 (winsL side f) ∧ Keep h.length h h' := by
    have e1 := triSide_N g lf n (by omega) h side
    rw [impl_TriangleWins.call_eq]
    unfold impl_TriangleWins.main
    simp only [env_C, env_lf, env_pick, env_bin, env_un]
    by_cases hs : 1 ≤ side ∧ side ≤ 4
    case neg =>
      rw [decide_eq_false hs] at e1
      have hno : winsL side f = -1 := by unfold winsL; rw [decide_eq_false hs]; rfl
      rw [hno]
      repeat (first | with_reducible refine wT ?_ | with_reducible refine wg0 rfl ?_ | with_reducible refine wpT ?_ | with_reducible refine wnF ?_ | with_reducible refine wsm ?_ | with_reducible refine wrI ?_ | with_reducible refine wbd (by assumption) ?_ | dsimp only)
      exact W.ret ⟨rfl, Keep.refl _ _⟩
    rw [decide_eq_true hs] at e1
    obtain ⟨s, rfl⟩ := Int.eq_ofNat_of_zero_le (show 0 ≤ side by omega)
    have s1 : 1 ≤ s := by omega
    have s4 : s ≤ 4 := by omega
    have hc10 := cellsT_le s4
    have eS := triSize_N g lf (s := s) (by omega) n (by omega) h
    have hwl : winsL (s : Int) f = if 0 ≤ f ∧ f ≤ (cellsT s : Int) then (winsT s f.toNat : Int) else -1 := by
      unfold winsL; rw [decide_eq_true hs, Bool.true_and, Int.toNat_natCast]; simp
    have hwd : ∀ F, winsT s F = (List.range (2 ^ cellsT s)).countP fun A => popT A == F && lastT s A := fun F => rfl
    have htw := fun A (hA : A < 2 ^ cellsT s) (hh : PHeap) (hth : TabT g hh) => touches_W g lf s1 s4 (own := A) hA hbig n (by omega) hlf hth
    obtain ⟨T, hTT⟩ : ∃ T, T = cellsT s := ⟨_, rfl⟩
    rw [← hTT] at hc10 eS hwl hwd
    rw [← hTT] at htw
    by_cases hf : 0 ≤ f ∧ f ≤ (T : Int)
    case neg =>
      rw [hwl, if_neg hf]
      by_cases h0 : f < 0
      · repeat (first | with_reducible refine wT ?_ | with_reducible refine wg1 rfl ?_ | with_reducible refine wg0 rfl ?_ | with_reducible refine wpT ?_ | with_reducible refine wpF ?_ | with_reducible refine wnT ?_ | with_reducible refine wpv ?_ | with_reducible refine wsm ?_ | with_reducible refine wrI ?_ | with_reducible refine wbd (by assumption) ?_ | with_reducible refine wlssT (by omega) ?_ | dsimp only)
        exact W.ret ⟨rfl, Keep.refl _ _⟩
      · repeat (first | with_reducible refine wT ?_ | with_reducible refine wg1 rfl ?_ | with_reducible refine wpF ?_ | with_reducible refine wnT ?_ | with_reducible refine wpv ?_ | with_reducible refine wsm ?_ | with_reducible refine wrI ?_ | with_reducible refine wbd (by assumption) ?_ | with_reducible refine wlssF (by omega) ?_ | with_reducible refine wgtrT (by omega) ?_ | dsimp only)
        exact W.ret ⟨rfl, Keep.refl _ _⟩
    rw [hwl, if_pos hf]
    obtain ⟨F, rfl⟩ := Int.eq_ofNat_of_zero_le hf.1
    rw [Int.toNat_natCast, hwd]
    have hT30 : T ≤ 30 := by omega
    obtain ⟨M, hM⟩ : ∃ M, M = 2 ^ T := ⟨_, rfl⟩
    have hM' : 1 <<< T = M := by rw [Nat.one_shiftLeft, hM]
    have hM10 : M ≤ 2 ^ 10 := by rw [hM]; exact Nat.pow_le_pow_right (by decide) hc10
    rw [← hM] at htw ⊢
    repeat (first | with_reducible refine wF ?_ | with_reducible refine wg1 rfl ?_ | with_reducible refine wpF ?_ | with_reducible refine wnT ?_ | with_reducible refine wpv ?_ | with_reducible refine wsm ?_ | with_reducible refine wbd (by assumption) ?_ | (with_reducible refine wshl hT30 ?_) | (rw [hM']) | with_reducible refine wlssF (by omega) ?_ | with_reducible refine wgtrF (by omega) ?_ | dsimp only)
    refine loopW (fun m st => ∃ (A c : Nat) (h2 : PHeap), st = impl_TriangleWins.st0 (.int .i64 (s : Int)) (.int .i64 (F : Int)) (.int .i64 (c : Int)) (.int .i64 (M : Int)) (.int .i64 (A : Int)) h2 ∧ A + m = M ∧ c ≤ A ∧ c = ((List.range A).countP fun A => popT A == F && lastT s A) ∧ Keep h.length h h2) ?_ lf M _ (by omega) ⟨0, 0, h, rfl, by omega, by omega, rfl, Keep.refl _ _⟩
    rintro n1 m st ⟨A, c, h2, rfl, hAm, hcA, hc, k2⟩ next
    rw [impl_TriangleWins.body0_eq]
    unfold impl_TriangleWins.body0
    simp only [env_C, env_pick, env_bin]
    cases m with
    | zero =>
      have hAM : A = M := by omega
      rw [← hAM, ← hc]
      repeat (first | with_reducible refine wF ?_ | with_reducible refine wrI ?_ | with_reducible refine wlssF (by omega) ?_ | rw [kLoop_exit] | rw [impl_TriangleWins.after0_se0_0_1_5_22_23_24])
      exact W.ret ⟨rfl, k2⟩
    | succ m =>
    have hA : A < M := by omega
    have eC := countInT_W g lf n (by omega) h2 (x := A) (by omega)
    have hsucc : ((List.range (A + 1)).countP fun A => popT A == F && lastT s A) = c + if (popT A == F && lastT s A) = true then 1 else 0 := by
      rw [List.range_succ, List.countP_append, ← hc]; simp
    by_cases hp : popT A = F
    case neg =>
      have hne : ¬ (popT A : Int) = (F : Int) := by omega
      have hno : (popT A == F && lastT s A) = false := by rw [beq_eq_false_iff_ne.2 hp]; rfl
      rw [hno] at hsucc
      repeat (first | with_reducible refine wT ?_ | with_reducible refine wF ?_ | with_reducible refine wg0 rfl ?_ | with_reducible refine wpF ?_ | with_reducible refine wsm ?_ | with_reducible refine wbd (by assumption) ?_ | with_reducible refine wadd1 (by omega) ?_ | with_reducible refine wlssT (by omega) ?_ | with_reducible refine weqlF (by omega) ?_ | dsimp only)
      exact next _ _ (Nat.lt_succ_self m) ⟨A + 1, c, h2, rfl, by omega, by omega, by rw [hsucc]; rfl, k2⟩
    have hpe : (popT A : Int) = (F : Int) := by omega
    have eW := htw A hA h2 ((hT h ht).keep k2)
    repeat (first | with_reducible refine wT ?_ | with_reducible refine wg1 rfl ?_ | with_reducible refine wsm ?_ | with_reducible refine wbd (by assumption) ?_ | with_reducible refine wlssT (by omega) ?_ | with_reducible refine weqlT (by omega) ?_ | dsimp only)
    refine wcall eW fun v h3 ⟨hv, k3⟩ => ?_
    subst hv
    have kk := k2.trans (k3.mono k2.1)
    cases hlast : lastT s A with
    | true =>
      have hyes : (popT A == F && lastT s A) = true := by rw [hlast, beq_iff_eq.2 hp]; rfl
      rw [if_pos hyes] at hsucc
      repeat (first | with_reducible refine wT ?_ | with_reducible refine wpT ?_ | with_reducible refine wadd1 (by omega) ?_ | dsimp only)
      exact next _ _ (Nat.lt_succ_self m) ⟨A + 1, c + 1, h3, rfl, by omega, by omega, hsucc.symm, kk⟩
    | false =>
      have hno : (popT A == F && lastT s A) = false := by rw [hlast, Bool.and_false]
      rw [hno] at hsucc
      repeat (first | with_reducible refine wF ?_ | with_reducible refine wpT ?_ | with_reducible refine wadd1 (by omega) ?_ | dsimp only)
      exact next _ _ (Nat.lt_succ_self m) ⟨A + 1, c, h3, rfl, by omega, by omega, by rw [hsucc]; rfl, kk⟩
  obtain ⟨_, h', e, rfl, k⟩ := this
  exact ⟨h', e, k⟩

theorem triangleNearOk (hlf : 20 < lf) (hT : ∀ h, TabOk g h → TabT g h) : TriangleNearOk7 g lf := fun N hN side k h ht => triNear_W g lf N (by omega) hlf side k (hT h ht)

end Go.Proofs.YtlefknibddkjpaaDoor

