/- The cells of one kind, and a position turned by half a turn: both programs, and their exact laws. -/
import Derived.Test.YtiflfnlpkhghpaaDoorC3
namespace Go.Proofs.YtiflfnlpkhghpaaDoor
open Go Go.Ip G

variable (g : Nat → PV) (lf n : Nat)

theorem OwnSl.res {n : Nat} {h : PHeap} {p : PV} {xs : List Int} (s : OwnSl n h p xs) : resV p = some p := by
  rcases s with ⟨rfl, _⟩ | ⟨id, _, rfl, _⟩ <;> rfl

/-- The places, from i on, at which a list has x. -/
def cellsFrom (x : Int) : Nat → List Int → List Int
  | _, [] => []
  | i, y :: ys => if y = x then (i : Int) :: cellsFrom x (i + 1) ys else cellsFrom x (i + 1) ys

theorem cellsFrom_length (x : Int) : ∀ (ys : List Int) (i : Nat), (cellsFrom x i ys).length ≤ ys.length
  | [], _ => Nat.le_refl _
  | y :: ys, i => by
    have := cellsFrom_length x ys (i + 1)
    rw [cellsFrom]
    split <;> simp <;> omega

theorem cellsFrom_none (x : Int) (hx : contentB x = false) : ∀ (ys : List Int) (i : Nat), ys.all contentB = true → cellsFrom x i ys = []
  | [], _, _ => rfl
  | y :: ys, i, h => by
    simp only [List.all_cons, Bool.and_eq_true] at h
    have hne : ¬ y = x := fun e => by rw [e, hx] at h; cases h.1
    rw [cellsFrom, if_neg hne]
    exact cellsFrom_none x hx ys (i + 1) h.2

theorem cellsOf_loop {xs : List Int} {p : PV} (x : Int) (hl : xs.length ≤ 2 ^ 35) : ∀ (m i fuel : Nat) (q : PV) (ys : List Int) (h : PHeap) (b : Nat), i + m = xs.length → m < fuel → ys.length ≤ i →
    OwnSl b h q ys → b ≤ h.length → (∀ h', Keep b h h' → IntSl .i64 h' p xs) →
    ∃ q' h', loopK (ev ((env g lf n).cx Tryd.prog impl_CellsOf.kl) impl_CellsOf.lp0) fuel (impl_CellsOf.st0 (.int .i64 x) q p (.int .i64 xs.length) (.int .i64 i) h) (impl_CellsOf.K0 (env g lf n) (kTop Tryd.prog Tryd.f32)) = some (q', h') ∧
      OwnSl b h' q' (ys ++ cellsFrom x i (xs.drop i)) ∧ Keep b h h'
  | 0, i, fuel, q, ys, h, b, him, hf, hy, ho, hb, hp => by
    obtain ⟨f, rfl⟩ : ∃ f, fuel = f + 1 := ⟨fuel - 1, by omega⟩
    refine ⟨q, h, ?_, ?_, Keep.refl _ _⟩
    · rw [loopK_succ, impl_CellsOf.body0_eq]
      have hlt : ¬ ((i : Int) < (xs.length : Int)) := by omega
      simp [impl_CellsOf.body0, hlt, impl_CellsOf.after0_se0_3_9_22_23_24_25, ho.res]
    · rw [List.drop_eq_nil_of_le (by omega), cellsFrom, List.append_nil]; exact ho
  | m + 1, i, fuel, q, ys, h, b, him, hf, hy, ho, hb, hp => by
    obtain ⟨f, rfl⟩ : ∃ f, fuel = f + 1 := ⟨fuel - 1, by omega⟩
    have hi : i < xs.length := by omega
    obtain ⟨a, ha, hla⟩ := (hp h (Keep.refl _ _)).at' hi
    have hlt : (i : Int) < (xs.length : Int) := by omega
    have hdx : xs.drop i = xs[i] :: xs.drop (i + 1) := List.drop_eq_getElem_cons hi
    by_cases he : xs[i] = x
    · have heq : (xs[i] == x) = true := by simp [he]
      obtain ⟨v, q2, h2, hb2, ha2, ho2, hk2⟩ := ho.append hb (i : Int) (by omega)
      obtain ⟨q', h', hr, ho', hk'⟩ := cellsOf_loop x hl m (i + 1) f q2 (ys ++ [(i : Int)]) h2 b (by omega) (by omega) (by simp; omega) ho2 (by have := hk2.1; omega) (fun h3 hk3 => hp h3 (hk2.trans hk3))
      refine ⟨q', h', ?_, ?_, hk2.trans hk'⟩
      · rw [loopK_succ, impl_CellsOf.body0_eq]
        simp only [impl_CellsOf.body0, env_bin, env_indexAddr, env_load, env_buildSlice, env_append, bin_lss, hlt, decide_true, Option.bind_some, cond_bool, cond_true, ha, hla, bin_eql, heq, hb2, ha2, bin_add, nx (show i < 2 ^ 40 by omega), kLoop_normal]
        exact hr
      · rw [hdx, cellsFrom, if_pos he, List.append_cons]; exact ho'
    · have heq : (xs[i] == x) = false := by simp [he]
      obtain ⟨q', h', hr, ho', hk'⟩ := cellsOf_loop x hl m (i + 1) f q ys h b (by omega) (by omega) (by omega) ho hb hp
      refine ⟨q', h', ?_, ?_, hk'⟩
      · rw [loopK_succ, impl_CellsOf.body0_eq]
        simp only [impl_CellsOf.body0, env_bin, env_indexAddr, env_load, bin_lss, hlt, decide_true, Option.bind_some, cond_bool, cond_true, cond_false, ha, hla, bin_eql, heq, bin_add, nx (show i < 2 ^ 40 by omega), kLoop_normal]
        exact hr
      · rw [hdx, cellsFrom, if_neg he]; exact ho'

def cellsL (r c : Int) (xs : List Int) (x : Int) : List Int := if posB r c xs = true then cellsFrom x 0 xs else []

theorem cellsL_length (r c : Int) (xs : List Int) (x : Int) : (cellsL r c xs x).length ≤ xs.length := by
  unfold cellsL; split
  · exact cellsFrom_length x xs 0
  · simp

theorem cellsOf_calls {xs : List Int} {p : PV} {h : PHeap} (N : Nat) (hN : 4 ≤ N) (r c x : Int) (hp : IntSl .i64 h p xs) (hl : xs.length ≤ 2 ^ 35) (hf : xs.length < lf) :
    ∃ q h', CL g lf N fn_impl_CellsOf [.int .i64 r, .int .i64 c, p, .int .i64 x] h = some (q, h') ∧ OwnSl h.length h' q (cellsL r c xs x) ∧ Keep h.length h h' := by
  obtain ⟨n, rfl⟩ : ∃ n, N = n + 4 := ⟨N - 4, by omega⟩
  rw [impl_CellsOf.call_eq]
  have hpos := positionOk_calls g lf n r c hp (by omega) hf
  unfold cellsL
  cases hb : posB r c xs with
  | false => exact ⟨.nilsl, h, by simp [impl_CellsOf.main, hpos, hb], OwnSl.nil _ _, Keep.refl _ _⟩
  | true =>
    cases hx : contentB x with
    | false =>
      have hall : xs.all contentB = true := by unfold posB at hb; simp only [Bool.and_eq_true] at hb; exact hb.2
      refine ⟨.nilsl, h, by simp [impl_CellsOf.main, hpos, hb, contentOk_calls, hx], ?_, Keep.refl _ _⟩
      rw [if_pos rfl, cellsFrom_none x hx xs 0 hall]
      exact OwnSl.nil _ _
    | true =>
      obtain ⟨q', h', hr, ho', hk'⟩ := cellsOf_loop g lf (n + 3) x hl xs.length 0 lf .nilsl [] h h.length (by omega) hf (by simp) (OwnSl.nil _ _) (Nat.le_refl _) (fun h' hk => hp.keep hk)
      refine ⟨q', h', ?_, ?_, hk'⟩
      · simp only [impl_CellsOf.main, env_C, env_un, env_pick, env_len, env_lf, hpos, hb, Option.bind_some, un_not, Bool.not_true, want_bool, BEq.rfl, cond_true, contentOk_calls, hx, pv_some', pick_bool, cond_false, cond_bool, hp.len']
        exact hr
      · rw [if_pos rfl]; simpa using ho'

/-- Of two functions that make one list of a position both sides of an exact law come out the same: what the law looks at, in its order. -/
theorem exact_chain {xs L : List Int} {p : PV} {h : PHeap} (N : Nat) (hN : 1 ≤ N) (fS fI : PV → PHeap → Res)
    (hS : ∀ q h, IntSl .i64 h q xs → ∃ w h', fS q h = some (w, h') ∧ OwnSl h.length h' w L ∧ Keep h.length h h')
    (hI : ∀ q h, IntSl .i64 h q xs → ∃ w h', fI q h = some (w, h') ∧ OwnSl h.length h' w L ∧ Keep h.length h h')
    (hp : IntSl .i64 h p xs) (hl : xs.length ≤ 1048576) (hL : L.length ≤ 1048576) (hf : 1048576 < lf) :
    ∃ q1 h1 w h2 q3 h3 g0 h4 y h5 h6 h7 q8 h8 g1 h9, CL g lf N fn_laws_toIntS [p] h = some (q1, h1) ∧ fS q1 h1 = some (w, h2) ∧ CL g lf N fn_laws_toIntS [p] h2 = some (q3, h3) ∧ fI q3 h3 = some (g0, h4) ∧
      CL g lf N fn_laws_eqIntS [g0, w] h4 = some (.bool true, h4) ∧ CL g lf N fn_laws_toIntS [p] h4 = some (y, h5) ∧ CL g lf N fn_laws_eqIntS [q3, y] h5 = some (.bool true, h5) ∧
      CL g lf N fn_laws_markIntS [q3, .int .i64 1] h5 = some (.int .i64 (1 + xs.length), h6) ∧ CL g lf N fn_laws_eqIntS [g0, w] h6 = some (.bool true, h6) ∧
      CL g lf N fn_laws_markIntS [g0, .int .i64 1] h6 = some (.int .i64 (1 + L.length), h7) ∧ CL g lf N fn_laws_heldIntS [g0, .int .i64 1] h7 = some (.int .i64 (1 + L.length), h7) ∧
      CL g lf N fn_laws_toIntS [p] h7 = some (q8, h8) ∧ fI q8 h8 = some (g1, h9) ∧ CL g lf N fn_laws_eqIntS [g1, w] h9 = some (.bool true, h9) ∧ CL g lf N fn_laws_heldIntS [g0, .int .i64 1] h9 = some (.int .i64 (1 + L.length), h9) := by
  obtain ⟨n, rfl⟩ : ∃ n, N = n + 1 := ⟨N - 1, by omega⟩
  obtain ⟨q1, h1, e1, o1, k1⟩ := toIntS_calls g lf (n + 1) (by omega) hp (by omega) (by omega)
  obtain ⟨w, h2, e2, ow, k2⟩ := hS q1 h1 o1.int
  have K2 : Keep h.length h h2 := k1.trans (k2.mono k1.1)
  obtain ⟨q3, h3, e3, o3, k3⟩ := toIntS_calls g lf (n + 1) (by omega) (hp.keep K2) (by omega) (by omega)
  have K3 : Keep h.length h h3 := K2.trans (k3.mono K2.1)
  obtain ⟨g0, h4, e4, og, k4⟩ := hI q3 h3 o3.int
  have K4 : Keep h.length h h4 := K3.trans (k4.mono K3.1)
  obtain ⟨y, h5, e5, oy, k5⟩ := toIntS_calls g lf (n + 1) (by omega) (hp.keep K4) (by omega) (by omega)
  have K5 : Keep h.length h h5 := K4.trans (k5.mono K4.1)
  have w2 := ow.b
  have w3 := w2.keep k3
  have w4 := w3.keep (k4.mono k3.1)
  have w5 := w4.keep (k5.mono (Nat.le_trans k3.1 k4.1))
  have x3 := o3.b
  have x4 := x3.keep k4
  have x5 := x4.keep (k5.mono k4.1)
  have g4 := og.b
  have g5 := g4.keep k5
  have s4 := eqIntS_calls g lf n og.int w4.int (by omega) (by omega)
  have s5 := eqIntS_calls g lf n x5.int oy.int (by omega) (by omega)
  obtain ⟨h6, e6, x6, t6⟩ := markIntS_calls g lf (n + 1) (by omega) x5 (by omega) (by omega)
  have K6 : Keep h.length h h6 := K5.trans (t6.keep.mono (K2.1))
  have w6 := w5.only t6 (.inl (Nat.le_refl _))
  have g6 := g5.only t6 (.inr (Nat.le_refl _))
  have s6 := eqIntS_calls g lf n g6.int w6.int (by omega) (by omega)
  obtain ⟨h7, e7, g7, t7⟩ := markIntS_calls g lf (n + 1) (by omega) g6 (by omega) (by omega)
  have K7 : Keep h.length h h7 := K6.trans (t7.keep.mono (K3.1))
  have w7 := w6.only t7 (.inl k3.1)
  have s7 := heldIntS_calls g lf (n + 1) (by omega) g7.int (by omega) (by omega)
  obtain ⟨q8, h8, e8, o8, k8⟩ := toIntS_calls g lf (n + 1) (by omega) (hp.keep K7) (by omega) (by omega)
  obtain ⟨g1, h9, e9, o9, k9⟩ := hI q8 h8 o8.int
  have len7 : h4.length ≤ h7.length := by rw [t7.1, t6.1]; exact k5.1
  have len2 : h2.length ≤ h7.length := Nat.le_trans (Nat.le_trans k3.1 k4.1) len7
  have w8 := w7.keep (k8.mono len2)
  have w9 := w8.keep (k9.mono (Nat.le_trans len2 k8.1))
  have g8 := g7.keep (k8.mono len7)
  have g9 := g8.keep (k9.mono (Nat.le_trans len7 k8.1))
  have s9 := eqIntS_calls g lf n o9.int w9.int (by omega) (by omega)
  have s10 := heldIntS_calls g lf (n + 1) (by omega) g9.int (by omega) (by omega)
  simp only [decide_true] at s4 s5 s6 s9
  exact ⟨q1, h1, w, h2, q3, h3, g0, h4, y, h5, h6, h7, q8, h8, g1, h9, e1, e2, e3, e4, s4, e5, s5, e6, s6, e7, s7, e8, e9, s9, s10⟩

end Go.Proofs.YtiflfnlpkhghpaaDoor
