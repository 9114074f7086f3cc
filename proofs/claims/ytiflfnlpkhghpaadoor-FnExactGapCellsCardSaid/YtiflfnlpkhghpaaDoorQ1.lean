/- The laws of chapter 2 over what the program's functions are asked to compute: the draws, the exact laws, and promise 9. -/
import Derived.Test.YtiflfnlpkhghpaaDoorT4
namespace Go.Proofs.YtiflfnlpkhghpaaDoor
open Go Go.Ip G

/-- What the program's functions may read besides: the table of steps, where there is one. -/
def TabOk (g : Nat → PV) (h : PHeap) : Prop := Tab g h
theorem TabOk.keep {g : Nat → PV} {h h' : PHeap} (t : TabOk g h) (k : Keep h.length h h') : TabOk g h' := Tab.keep t k

/-- What is asked of the program's functions of chapter 2. -/
def JoinsOk (g : Nat → PV) (lf : Nat) : Prop := ∀ (N : Nat), 20 ≤ N → ∀ (r c pl : Int) {xs : List Int} {p : PV} {h : PHeap}, TabOk g h → IntSl .i64 h p xs → xs.length ≤ 2 ^ 35 → xs.length < lf →
  ∃ h', CL g lf N fn_impl_Joins [.int .i64 r, .int .i64 c, p, .int .i64 pl] h = some (.bool (joinsL r c xs pl), h') ∧ Keep h.length h h'
def GapOk (g : Nat → PV) (lf : Nat) : Prop := ∀ (N : Nat), 20 ≤ N → ∀ (r c pl : Int) {xs : List Int} {p : PV} {h : PHeap}, TabOk g h → IntSl .i64 h p xs → xs.length ≤ 2 ^ 35 → xs.length < lf →
  ∃ h', CL g lf N fn_impl_GapOf [.int .i64 r, .int .i64 c, p, .int .i64 pl] h = some (.int .i64 (gapL r c xs pl), h') ∧ Keep h.length h h'
def FilledOk (g : Nat → PV) (lf : Nat) : Prop := ∀ (N : Nat), 20 ≤ N → ∀ (r c pl : Int) {xs : List Int} {p : PV} {h : PHeap}, TabOk g h → IntSl .i64 h p xs → xs.length ≤ 2 ^ 35 → xs.length < lf →
  ∃ q h', CL g lf N fn_impl_Filled [.int .i64 r, .int .i64 c, p, .int .i64 pl] h = some (q, h') ∧ OwnSl h.length h' q (filledL r c xs pl) ∧ Keep h.length h h'
def GroupOk (g : Nat → PV) (lf : Nat) : Prop := ∀ (N : Nat), 20 ≤ N → ∀ (r c k : Int) {xs : List Int} {p : PV} {h : PHeap}, TabOk g h → IntSl .i64 h p xs → xs.length ≤ 2 ^ 35 → xs.length < lf →
  ∃ q h', CL g lf N fn_impl_GroupOf [.int .i64 r, .int .i64 c, p, .int .i64 k] h = some (q, h') ∧ OwnSl h.length h' q (groupL r c xs k) ∧ Keep h.length h h'
def GapCellsOk (g : Nat → PV) (lf : Nat) : Prop := ∀ (N : Nat), 20 ≤ N → ∀ (r c pl : Int) {xs : List Int} {p : PV} {h : PHeap}, TabOk g h → IntSl .i64 h p xs → xs.length ≤ 2 ^ 35 → xs.length < lf →
  ∃ q h', CL g lf N fn_impl_GapCells [.int .i64 r, .int .i64 c, p, .int .i64 pl] h = some (q, h') ∧ OwnSl h.length h' q (gapCellsL r c xs pl) ∧ Keep h.length h h'

variable (g : Nat → PV) (lf n : Nat)

/-! ### the exact laws -/
/-- Of two functions that make one list of a position both sides of an exact law come out the same: what the law looks at, in its order. -/
theorem exact_chain2 {xs L : List Int} {p : PV} {h : PHeap} (N : Nat) (hN : 1 ≤ N) (fS fI : PV → PHeap → Res)
    (hS : ∀ q hh, Keep h.length h hh → IntSl .i64 hh q xs → ∃ w h', fS q hh = some (w, h') ∧ OwnSl hh.length h' w L ∧ Keep hh.length hh h')
    (hI : ∀ q hh, Keep h.length h hh → IntSl .i64 hh q xs → ∃ w h', fI q hh = some (w, h') ∧ OwnSl hh.length h' w L ∧ Keep hh.length hh h')
    (hp : IntSl .i64 h p xs) (hl : xs.length ≤ 1048576) (hL : L.length ≤ 1048576) (hf : 1048576 < lf) :
    ∃ q1 h1 w h2 q3 h3 g0 h4 y h5 h6 h7 q8 h8 g1 h9, CL g lf N fn_laws_toIntS [p] h = some (q1, h1) ∧ fS q1 h1 = some (w, h2) ∧ CL g lf N fn_laws_toIntS [p] h2 = some (q3, h3) ∧ fI q3 h3 = some (g0, h4) ∧
      CL g lf N fn_laws_eqIntS [g0, w] h4 = some (.bool true, h4) ∧ CL g lf N fn_laws_toIntS [p] h4 = some (y, h5) ∧ CL g lf N fn_laws_eqIntS [q3, y] h5 = some (.bool true, h5) ∧
      CL g lf N fn_laws_markIntS [q3, .int .i64 1] h5 = some (.int .i64 (1 + xs.length), h6) ∧ CL g lf N fn_laws_eqIntS [g0, w] h6 = some (.bool true, h6) ∧
      CL g lf N fn_laws_markIntS [g0, .int .i64 1] h6 = some (.int .i64 (1 + L.length), h7) ∧ CL g lf N fn_laws_heldIntS [g0, .int .i64 1] h7 = some (.int .i64 (1 + L.length), h7) ∧
      CL g lf N fn_laws_toIntS [p] h7 = some (q8, h8) ∧ fI q8 h8 = some (g1, h9) ∧ CL g lf N fn_laws_eqIntS [g1, w] h9 = some (.bool true, h9) ∧ CL g lf N fn_laws_heldIntS [g0, .int .i64 1] h9 = some (.int .i64 (1 + L.length), h9) := by
  obtain ⟨n, rfl⟩ : ∃ n, N = n + 1 := ⟨N - 1, by omega⟩
  obtain ⟨q1, h1, e1, o1, k1⟩ := toIntS_calls g lf (n + 1) (by omega) hp (by omega) (by omega)
  obtain ⟨w, h2, e2, ow, k2⟩ := hS q1 h1 k1 o1.int
  have K2 : Keep h.length h h2 := k1.trans (k2.mono k1.1)
  obtain ⟨q3, h3, e3, o3, k3⟩ := toIntS_calls g lf (n + 1) (by omega) (hp.keep K2) (by omega) (by omega)
  have K3 : Keep h.length h h3 := K2.trans (k3.mono K2.1)
  obtain ⟨g0, h4, e4, og, k4⟩ := hI q3 h3 K3 o3.int
  have K4 : Keep h.length h h4 := K3.trans (k4.mono K3.1)
  obtain ⟨y, h5, e5, oy, k5⟩ := toIntS_calls g lf (n + 1) (by omega) (hp.keep K4) (by omega) (by omega)
  have K5 : Keep h.length h h5 := K4.trans (k5.mono K4.1)
  have w2 := ow.b
  have w3 := w2.keep k3
  have w4 := w3.keep (k4.mono k3.1)
  have w5 := w4.keep (k5.mono (Nat.le_trans k3.1 k4.1))
  have x3 := o3.b
  have x4 := x3.keep k4
  have x5 := x4.keep (k5.mono k4.1)
  have g4 := og.b
  have g5 := g4.keep k5
  have s4 := eqIntS_calls g lf n og.int w4.int (by omega) (by omega)
  have s5 := eqIntS_calls g lf n x5.int oy.int (by omega) (by omega)
  obtain ⟨h6, e6, x6, t6⟩ := markIntS_calls g lf (n + 1) (by omega) x5 (by omega) (by omega)
  have K6 : Keep h.length h h6 := K5.trans (t6.keep.mono (K2.1))
  have w6 := w5.only t6 (.inl (Nat.le_refl _))
  have g6 := g5.only t6 (.inr (Nat.le_refl _))
  have s6 := eqIntS_calls g lf n g6.int w6.int (by omega) (by omega)
  obtain ⟨h7, e7, g7, t7⟩ := markIntS_calls g lf (n + 1) (by omega) g6 (by omega) (by omega)
  have K7 : Keep h.length h h7 := K6.trans (t7.keep.mono (K3.1))
  have w7 := w6.only t7 (.inl k3.1)
  have s7 := heldIntS_calls g lf (n + 1) (by omega) g7.int (by omega) (by omega)
  obtain ⟨q8, h8, e8, o8, k8⟩ := toIntS_calls g lf (n + 1) (by omega) (hp.keep K7) (by omega) (by omega)
  obtain ⟨g1, h9, e9, o9, k9⟩ := hI q8 h8 (K7.trans (k8.mono K7.1)) o8.int
  have len7 : h4.length ≤ h7.length := by rw [t7.1, t6.1]; exact k5.1
  have len2 : h2.length ≤ h7.length := Nat.le_trans (Nat.le_trans k3.1 k4.1) len7
  have w8 := w7.keep (k8.mono len2)
  have w9 := w8.keep (k9.mono (Nat.le_trans len2 k8.1))
  have g8 := g7.keep (k8.mono len7)
  have g9 := g8.keep (k9.mono (Nat.le_trans len7 k8.1))
  have s9 := eqIntS_calls g lf n o9.int w9.int (by omega) (by omega)
  have s10 := heldIntS_calls g lf (n + 1) (by omega) g9.int (by omega) (by omega)
  simp only [decide_true] at s4 s5 s6 s9
  exact ⟨q1, h1, w, h2, q3, h3, g0, h4, y, h5, h6, h7, q8, h8, g1, h9, e1, e2, e3, e4, s4, e5, s5, e6, s6, e7, s7, e8, e9, s9, s10⟩


theorem groupL_length (r c : Int) (xs : List Int) (k : Int) : (groupL r c xs k).length ≤ 9 := by
  unfold groupL; split
  · exact listN_length _
  · simp
theorem filledL_length (r c : Int) (xs : List Int) (p : Int) : (filledL r c xs p).length ≤ xs.length := by
  unfold filledL; split <;> simp
theorem gapCellsL_length (r c : Int) (xs : List Int) (p : Int) : (gapCellsL r c xs p).length ≤ xs.length := by
  unfold gapCellsL; split
  · rw [List.length_map]
    refine Nat.le_trans (List.length_filter_le _ _) ?_
    rw [List.length_range]; exact Nat.le_refl _
  · simp

theorem exactGroupOf_calls (hok : GroupOk g lf) {xs : List Int} {p : PV} {h : PHeap} (N : Nat) (hN : 21 ≤ N) (r c x : Int) (ht : TabOk g h) (hp : IntSl .i64 h p xs) (hf : 1048576 < lf) :
    ∃ h', CL g lf N fn_laws_FnExactGroupOf [.int .i64 r, .int .i64 c, p, .int .i64 x] h = some (.bool true, h') := by
  obtain ⟨n, rfl⟩ : ∃ n, N = n + 1 := ⟨N - 1, by omega⟩
  rw [laws_FnExactGroupOf.call_eq]
  by_cases hbig : (1048576 : Int) < (xs.length : Int)
  · exact ⟨h, by simp [laws_FnExactGroupOf.main, hp.len', hbig]⟩
  · have hl : xs.length ≤ 1048576 := by omega
    have hL := groupL_length r c xs x
    obtain ⟨q1, h1, w, h2, q3, h3, g0, h4, y, h5, h6, h7, q8, h8, g1, h9, e1, e2, e3, e4, e5, e6, e7, e8, e9, e10, e11, e12, e13, e14, e15⟩ := exact_chain2 g lf n (by omega)
      (fun q h => CL g lf n fn_spec_GroupOf [.int .i64 r, .int .i64 c, q, .int .i64 x] h) (fun q h => CL g lf n fn_impl_GroupOf [.int .i64 r, .int .i64 c, q, .int .i64 x] h)
      (fun q hh _ hq => specGroupOf_calls g lf n (by omega) r c x hq (by omega) (by omega) (by omega)) (fun q hh hk hq => hok n (by omega) r c x (ht.keep hk) hq (by omega) (by omega)) hp hl (by omega) hf
    refine ⟨h9, ?_⟩
    have c1 : ¬ ((1 : Int) + (xs.length : Int) < 0) := by omega
    have c2 : ¬ ((1 : Int) + ((groupL r c xs x).length : Int) < 0) := by omega
    simp [laws_FnExactGroupOf.main, hp.len', hbig, e1, e2, e3, e4, e5, e6, e7, e8, e9, e10, e11, e12, e13, e14, e15, c1, c2]

theorem exactGapCells_calls (hok : GapCellsOk g lf) {xs : List Int} {p : PV} {h : PHeap} (N : Nat) (hN : 21 ≤ N) (r c x : Int) (ht : TabOk g h) (hp : IntSl .i64 h p xs) (hf : 1048576 < lf) :
    ∃ h', CL g lf N fn_laws_FnExactGapCells [.int .i64 r, .int .i64 c, p, .int .i64 x] h = some (.bool true, h') := by
  obtain ⟨n, rfl⟩ : ∃ n, N = n + 1 := ⟨N - 1, by omega⟩
  rw [laws_FnExactGapCells.call_eq]
  by_cases hbig : (1048576 : Int) < (xs.length : Int)
  · exact ⟨h, by simp [laws_FnExactGapCells.main, hp.len', hbig]⟩
  · have hl : xs.length ≤ 1048576 := by omega
    have hL := gapCellsL_length r c xs x
    obtain ⟨q1, h1, w, h2, q3, h3, g0, h4, y, h5, h6, h7, q8, h8, g1, h9, e1, e2, e3, e4, e5, e6, e7, e8, e9, e10, e11, e12, e13, e14, e15⟩ := exact_chain2 g lf n (by omega)
      (fun q h => CL g lf n fn_spec_GapCells [.int .i64 r, .int .i64 c, q, .int .i64 x] h) (fun q h => CL g lf n fn_impl_GapCells [.int .i64 r, .int .i64 c, q, .int .i64 x] h)
      (fun q hh _ hq => specGapCells_calls g lf n (by omega) r c x hq (by omega) (by omega) (by omega)) (fun q hh hk hq => hok n (by omega) r c x (ht.keep hk) hq (by omega) (by omega)) hp hl (by omega) hf
    refine ⟨h9, ?_⟩
    have c1 : ¬ ((1 : Int) + (xs.length : Int) < 0) := by omega
    have c2 : ¬ ((1 : Int) + ((gapCellsL r c xs x).length : Int) < 0) := by omega
    simp [laws_FnExactGapCells.main, hp.len', hbig, e1, e2, e3, e4, e5, e6, e7, e8, e9, e10, e11, e12, e13, e14, e15, c1, c2]

theorem exactJoins_calls (hok : JoinsOk g lf) {xs : List Int} {p : PV} {h : PHeap} (N : Nat) (hN : 21 ≤ N) (r c x : Int) (ht : TabOk g h) (hp : IntSl .i64 h p xs) (hf : 1048576 < lf) :
    ∃ h', CL g lf N fn_laws_FnExactJoins [.int .i64 r, .int .i64 c, p, .int .i64 x] h = some (.bool true, h') := by
  obtain ⟨n, rfl⟩ : ∃ n, N = n + 1 := ⟨N - 1, by omega⟩
  rw [laws_FnExactJoins.call_eq]
  by_cases hbig : (1048576 : Int) < (xs.length : Int)
  · exact ⟨h, by simp [laws_FnExactJoins.main, hp.len', hbig]⟩
  · have hl : xs.length ≤ 1048576 := by omega
    have f0 : binP Tryd.prog .gtr 3 (.int .i64 (xs.length : Int)) (.int .i64 1048576) = some (.bool false) := by rw [bin_gtr, decide_eq_false hbig]
    obtain ⟨q1, h1, e1, o1, k1⟩ := toIntS_calls g lf n (by omega) hp (by omega) (by omega)
    obtain ⟨h2, e2, k2⟩ := specJoins_calls g lf n (by omega) r c x o1.int (by omega) (by omega) (by omega)
    have K2 : Keep h.length h h2 := k1.trans (k2.mono k1.1)
    obtain ⟨q3, h3, e3, o3, k3⟩ := toIntS_calls g lf n (by omega) (hp.keep K2) (by omega) (by omega)
    have K3 : Keep h.length h h3 := K2.trans (k3.mono K2.1)
    obtain ⟨h4, e4, k4⟩ := hok n (by omega) r c x (ht.keep K3) o3.int (by omega) (by omega)
    have K4 : Keep h.length h h4 := K3.trans (k4.mono K3.1)
    obtain ⟨q5, h5, e5, o5, k5⟩ := toIntS_calls g lf n (by omega) (hp.keep K4) (by omega) (by omega)
    have e6 := eqIntS_N g lf n (by omega) ((o3.keep k4).keep k5).int o5.int (by omega) (by omega)
    rw [decide_eq_true rfl] at e6
    have f1 : binP Tryd.prog .neq 4 (.bool (joinsL r c xs x)) (.bool (joinsL r c xs x)) = some (.bool false) := by rw [neqB]; simp
    refine ⟨h5, ?_⟩
    unfold laws_FnExactJoins.main
    exact bd hp.len' (bd f0 (cdF (bd e1 (bd e2 (bd e3 (bd e4 (bd f1 (cdF (bd e5 (bd e6 (bd un_not (cdF (bd res_bool rfl)))))))))))))

theorem exactGapOf_calls (hok : GapOk g lf) {xs : List Int} {p : PV} {h : PHeap} (N : Nat) (hN : 21 ≤ N) (r c x : Int) (ht : TabOk g h) (hp : IntSl .i64 h p xs) (hf : 1048576 < lf) :
    ∃ h', CL g lf N fn_laws_FnExactGapOf [.int .i64 r, .int .i64 c, p, .int .i64 x] h = some (.bool true, h') := by
  obtain ⟨n, rfl⟩ : ∃ n, N = n + 1 := ⟨N - 1, by omega⟩
  rw [laws_FnExactGapOf.call_eq]
  by_cases hbig : (1048576 : Int) < (xs.length : Int)
  · exact ⟨h, by simp [laws_FnExactGapOf.main, hp.len', hbig]⟩
  · have hl : xs.length ≤ 1048576 := by omega
    have f0 : binP Tryd.prog .gtr 3 (.int .i64 (xs.length : Int)) (.int .i64 1048576) = some (.bool false) := by rw [bin_gtr, decide_eq_false hbig]
    obtain ⟨q1, h1, e1, o1, k1⟩ := toIntS_calls g lf n (by omega) hp (by omega) (by omega)
    obtain ⟨h2, e2, k2⟩ := specGapOf_calls g lf n (by omega) r c x o1.int (by omega) (by omega) (by omega)
    have K2 : Keep h.length h h2 := k1.trans (k2.mono k1.1)
    obtain ⟨q3, h3, e3, o3, k3⟩ := toIntS_calls g lf n (by omega) (hp.keep K2) (by omega) (by omega)
    have K3 : Keep h.length h h3 := K2.trans (k3.mono K2.1)
    obtain ⟨h4, e4, k4⟩ := hok n (by omega) r c x (ht.keep K3) o3.int (by omega) (by omega)
    have K4 : Keep h.length h h4 := K3.trans (k4.mono K3.1)
    obtain ⟨q5, h5, e5, o5, k5⟩ := toIntS_calls g lf n (by omega) (hp.keep K4) (by omega) (by omega)
    have e6 := eqIntS_N g lf n (by omega) ((o3.keep k4).keep k5).int o5.int (by omega) (by omega)
    rw [decide_eq_true rfl] at e6
    have f1 : binP Tryd.prog .neq 3 (.int .i64 (gapL r c xs x)) (.int .i64 (gapL r c xs x)) = some (.bool false) := by rw [bin_neq]; simp
    refine ⟨h5, ?_⟩
    unfold laws_FnExactGapOf.main
    exact bd hp.len' (bd f0 (cdF (bd e1 (bd e2 (bd e3 (bd e4 (bd f1 (cdF (bd e5 (bd e6 (bd un_not (cdF (bd res_bool rfl)))))))))))))

/-! ### the draws -/
theorem sided_calls {h : PHeap} {id m : Nat} (N : Nat) (hN : 5 ≤ N) (k : Int) (hr : Rd h id m) (hm : m ≤ 700000) (hk : k ≤ 400000) (hk0 : 1 ≤ k) (hlf : 20 < lf) :
    ∃ (r c : Int) (q : PV) (xs : List Int) (pl : Int) (h' : PHeap), CL g lf N fn_spec_l20Sided [.ptr id 0, .int .i64 k] h = some (.tup [.int .i64 r, .int .i64 c, q, .int .i64 pl], h') ∧ Keep id h h' ∧ OwnSl (id + 1) h' q xs ∧ xs.length ≤ 10 ∧ 1 ≤ pl ∧ pl ≤ 4 := by
  obtain ⟨n, rfl⟩ : ∃ n, N = n + 1 := ⟨N - 1, by omega⟩
  rw [spec_l20Sided.call_eq]
  obtain ⟨r, c, q, xs, h1, e1, r1, k1, o1, hl, hrc⟩ := position_calls g lf n (by omega) k hr (by omega) hk hk0 hlf
  obtain ⟨v1, h2, e2, r2, o2, a1, a2, _⟩ := pick_calls g lf n (by omega) 2 r1 (by omega) (by omega)
  obtain ⟨v2, h3, e3, r3, o3, b1, b2, _⟩ := pick_calls g lf n (by omega) 60 r2 (by omega) (by omega)
  have a2' := a2 (by omega)
  have b2' := b2 (by omega)
  have hq := tdiv_range b1 (show (1 : Int) ≤ 59 by decide)
  have hq1 : v2.tdiv 59 ≤ 1 := by
    obtain ⟨V, rfl⟩ := Int.eq_ofNat_of_zero_le b1
    have : ((V : Int).tdiv 59) = ((V / 59 : Nat) : Int) := rfl
    rw [this]; omega
  have f1 : binP Tryd.prog .add 3 (.int .i64 1) (.int .i64 v1) = some (.int .i64 (1 + v1)) := by rw [bin_add, wr (by omega)]
  have f2 : binP Tryd.prog .quo 3 (.int .i64 v2) (.int .i64 59) = some (.int .i64 (v2.tdiv 59)) := by rw [bin_quo (by decide), wr (by omega)]
  have f3 : binP Tryd.prog .mul 3 (.int .i64 (v2.tdiv 59)) (.int .i64 2) = some (.int .i64 (v2.tdiv 59 * 2)) := by rw [bin_mul, wr (by omega)]
  have f4 : binP Tryd.prog .add 3 (.int .i64 (1 + v1)) (.int .i64 (v2.tdiv 59 * 2)) = some (.int .i64 (1 + v1 + v2.tdiv 59 * 2)) := by rw [bin_add, wr (by omega)]
  have ho := (o1.keepOnly o2 (by omega)).keepOnly o3 (by omega)
  refine ⟨r, c, q, xs, 1 + v1 + v2.tdiv 59 * 2, h3, ?_, (k1.trans o2.keep).trans o3.keep, ho, hl, by omega, by omega⟩
  unfold spec_l20Sided.main
  exact bd e1 (bd extract_tup (bd extract_tup (bd extract_tup (bd e2 (bd f1 (bd e3 (bd f2 (bd f3 (bd f4 (bd res_int (bd res_int (bd o1.res (bd res_int rfl)))))))))))))

theorem drawJoins_calls {p : PV} {ys : List Int} {h : PHeap} (N : Nat) (hN : 6 ≤ N) (ha : Arg h p ys) (hlf : 20 < lf) :
    ∃ (r c : Int) (q : PV) (xs : List Int) (pl : Int) (h' : PHeap), CL g lf N fn_spec_DrawJoins [p] h = some (.tup [.int .i64 r, .int .i64 c, q, .int .i64 pl], h') ∧ Keep h.length h h' ∧ IntSl .i64 h' q xs ∧ xs.length ≤ 10 ∧ 1 ≤ pl ∧ pl ≤ 4 := by
  obtain ⟨n, rfl⟩ : ∃ n, N = n + 1 := ⟨N - 1, by omega⟩
  rw [spec_DrawJoins.call_eq]
  obtain ⟨h1, e1, r1, k1⟩ := open_calls g lf n (by omega) ha
  obtain ⟨r, c, q, xs, pl, h2, e2, k2, o2, hl, hp1, hp2⟩ := sided_calls g lf n (by omega) 14 r1 (by omega) (by omega) (by omega) hlf
  refine ⟨r, c, q, xs, pl, h2, ?_, k1.trans k2, o2.int, hl, hp1, hp2⟩
  unfold spec_DrawJoins.main
  exact bd e1 (bd e2 (bd extract_tup (bd extract_tup (bd extract_tup (bd extract_tup (bd res_int (bd res_int (bd o2.res (bd res_int rfl)))))))))

theorem drawGapOf_calls {p : PV} {ys : List Int} {h : PHeap} (N : Nat) (hN : 6 ≤ N) (ha : Arg h p ys) (hlf : 20 < lf) :
    ∃ (r c : Int) (q : PV) (xs : List Int) (pl : Int) (h' : PHeap), CL g lf N fn_spec_DrawGapOf [p] h = some (.tup [.int .i64 r, .int .i64 c, q, .int .i64 pl], h') ∧ Keep h.length h h' ∧ IntSl .i64 h' q xs ∧ xs.length ≤ 10 ∧ 1 ≤ pl ∧ pl ≤ 4 := by
  obtain ⟨n, rfl⟩ : ∃ n, N = n + 1 := ⟨N - 1, by omega⟩
  rw [spec_DrawGapOf.call_eq]
  obtain ⟨h1, e1, r1, k1⟩ := open_calls g lf n (by omega) ha
  obtain ⟨r, c, q, xs, pl, h2, e2, k2, o2, hl, hp1, hp2⟩ := sided_calls g lf n (by omega) 14 r1 (by omega) (by omega) (by omega) hlf
  refine ⟨r, c, q, xs, pl, h2, ?_, k1.trans k2, o2.int, hl, hp1, hp2⟩
  unfold spec_DrawGapOf.main
  exact bd e1 (bd e2 (bd extract_tup (bd extract_tup (bd extract_tup (bd extract_tup (bd res_int (bd res_int (bd o2.res (bd res_int rfl)))))))))

theorem drawFilled_calls {p : PV} {ys : List Int} {h : PHeap} (N : Nat) (hN : 6 ≤ N) (ha : Arg h p ys) (hlf : 20 < lf) :
    ∃ (r c : Int) (q : PV) (xs : List Int) (pl : Int) (h' : PHeap), CL g lf N fn_spec_DrawFilled [p] h = some (.tup [.int .i64 r, .int .i64 c, q, .int .i64 pl], h') ∧ Keep h.length h h' ∧ IntSl .i64 h' q xs ∧ xs.length ≤ 10 ∧ 1 ≤ pl ∧ pl ≤ 4 := by
  obtain ⟨n, rfl⟩ : ∃ n, N = n + 1 := ⟨N - 1, by omega⟩
  rw [spec_DrawFilled.call_eq]
  obtain ⟨h1, e1, r1, k1⟩ := open_calls g lf n (by omega) ha
  obtain ⟨r, c, q, xs, pl, h2, e2, k2, o2, hl, hp1, hp2⟩ := sided_calls g lf n (by omega) 12 r1 (by omega) (by omega) (by omega) hlf
  refine ⟨r, c, q, xs, pl, h2, ?_, k1.trans k2, o2.int, hl, hp1, hp2⟩
  unfold spec_DrawFilled.main
  exact bd e1 (bd e2 (bd extract_tup (bd extract_tup (bd extract_tup (bd extract_tup (bd res_int (bd res_int (bd o2.res (bd res_int rfl)))))))))

theorem drawGapCells_calls {p : PV} {ys : List Int} {h : PHeap} (N : Nat) (hN : 6 ≤ N) (ha : Arg h p ys) (hlf : 20 < lf) :
    ∃ (r c : Int) (q : PV) (xs : List Int) (pl : Int) (h' : PHeap), CL g lf N fn_spec_DrawGapCells [p] h = some (.tup [.int .i64 r, .int .i64 c, q, .int .i64 pl], h') ∧ Keep h.length h h' ∧ IntSl .i64 h' q xs ∧ xs.length ≤ 10 ∧ 1 ≤ pl ∧ pl ≤ 4 := by
  obtain ⟨n, rfl⟩ : ∃ n, N = n + 1 := ⟨N - 1, by omega⟩
  rw [spec_DrawGapCells.call_eq]
  obtain ⟨h1, e1, r1, k1⟩ := open_calls g lf n (by omega) ha
  obtain ⟨r, c, q, xs, pl, h2, e2, k2, o2, hl, hp1, hp2⟩ := sided_calls g lf n (by omega) 14 r1 (by omega) (by omega) (by omega) hlf
  refine ⟨r, c, q, xs, pl, h2, ?_, k1.trans k2, o2.int, hl, hp1, hp2⟩
  unfold spec_DrawGapCells.main
  exact bd e1 (bd e2 (bd extract_tup (bd extract_tup (bd extract_tup (bd extract_tup (bd res_int (bd res_int (bd o2.res (bd res_int rfl)))))))))

theorem halfTurned_N {xs : List Int} {p : PV} {h : PHeap} (N : Nat) (hN : 4 ≤ N) (r c : Int) (hp : IntSl .i64 h p xs) (hl : xs.length ≤ 2 ^ 35) (hf : xs.length < lf) :
    ∃ q h', CL g lf N fn_impl_HalfTurned [.int .i64 r, .int .i64 c, p] h = some (q, h') ∧ OwnSl h.length h' q (turnL r c xs) ∧ Keep h.length h h' := halfTurned_calls g lf N hN r c hp hl hf

/-- Behind a position that is none, or a player that is none. -/
theorem joinsL_none {r c : Int} {xs : List Int} {pl : Int} (h : posB r c xs = false ∨ 2 < pl) : joinsL r c xs pl = false := by
  unfold joinsL playerB
  rcases h with h | h
  · rw [h]; rfl
  · rw [decide_eq_false (show ¬ (1 ≤ pl ∧ pl ≤ 2) by omega), Bool.and_false, Bool.false_and]
theorem gapL_none {r c : Int} {xs : List Int} {pl : Int} (h : posB r c xs = false ∨ 2 < pl) : gapL r c xs pl = -1 := by
  unfold gapL playerB
  rcases h with h | h
  · rw [h]; rfl
  · rw [decide_eq_false (show ¬ (1 ≤ pl ∧ pl ≤ 2) by omega), Bool.and_false]; rfl

theorem fnJoins_calls (hJ : JoinsOk g lf) (hFi : FilledOk g lf) {p : PV} {ys : List Int} {h : PHeap} (N : Nat) (hN : 21 ≤ N) (ha : Arg h p ys) (hlf : 1000 < lf) (ht : TabOk g h) :
    ∃ h', CL g lf N fn_laws_FnJoins [p] h = some (.bool true, h') := by
  obtain ⟨n, rfl⟩ : ∃ n, N = n + 1 := ⟨N - 1, by omega⟩
  rw [laws_FnJoins.call_eq]
  have hlenp : lenP Tryd.prog 22 p = some (.int .i64 ys.length) := (ha.1 h (Keep.refl _ _)).len tyB
  by_cases hbig : (1048576 : Int) < (ys.length : Int)
  · refine ⟨h, ?_⟩
    unfold laws_FnJoins.main
    have f0 : binP Tryd.prog .gtr 3 (.int .i64 (ys.length : Int)) (.int .i64 1048576) = some (.bool true) := by rw [bin_gtr, decide_eq_true hbig]
    exact bd hlenp (bd f0 (cdT (bd res_bool rfl)))
  · have f0 : binP Tryd.prog .gtr 3 (.int .i64 (ys.length : Int)) (.int .i64 1048576) = some (.bool false) := by rw [bin_gtr, decide_eq_false hbig]
    obtain ⟨r, c, q, xs, pl, h1, e1, k1, hq, hl, hp1, hp2⟩ := drawJoins_calls g lf n (by omega) ha (by omega)
    have t1 := ht.keep k1
    obtain ⟨h2, e2, k2⟩ := hJ n (by omega) r c pl t1 hq (by omega) (by omega)
    have t2 := t1.keep k2
    have hq2 := hq.keep k2
    obtain ⟨h3, e3, k3⟩ := specJoins_calls g lf n (by omega) r c pl hq2 (by omega) (by omega) hlf
    have t3 := t2.keep k3
    have hq3 := hq2.keep k3
    have f1 : binP Tryd.prog .neq 4 (.bool (joinsL r c xs pl)) (.bool (joinsL r c xs pl)) = some (.bool false) := by rw [neqB]; simp
    have hpos := specPositionOk_N g lf n (by omega) r c hq3 (by omega) (by omega)
    have f2 : binP Tryd.prog .gtr 3 (.int .i64 pl) (.int .i64 2) = some (.bool (decide (2 < pl))) := bin_gtr
    have e5 := alive_calls g lf n (by omega) h3
    cases hb : posB r c xs with
    | false =>
      have hj := joinsL_none (pl := pl) (.inl hb)
      rw [hj] at e2 e3 f1
      rw [hb] at hpos
      refine ⟨h3, ?_⟩
      unfold laws_FnJoins.main
      refine bd hlenp (bd f0 (cdF (bd e1 (bd extract_tup (bd extract_tup (bd extract_tup (bd extract_tup (bd e2 (bd e3 (bd f1 (cdF ?_)))))))))))
      refine bd hpos (bd un_not (gn rfl (bd rfl (gn rfl (bd rfl (bd (v := PV.bool true) rfl (cdT ?_)))))))
      exact bd un_not (gd rfl (bd e5 (bd (v := PV.bool true) rfl (bd res_bool rfl))))
    | true =>
      rw [hb] at hpos
      by_cases hpl : 2 < pl
      · have hj := joinsL_none (r := r) (c := c) (xs := xs) (.inr hpl)
        rw [hj] at e2 e3 f1
        rw [decide_eq_true hpl] at f2
        refine ⟨h3, ?_⟩
        unfold laws_FnJoins.main
        refine bd hlenp (bd f0 (cdF (bd e1 (bd extract_tup (bd extract_tup (bd extract_tup (bd extract_tup (bd e2 (bd e3 (bd f1 (cdF ?_)))))))))))
        refine bd hpos (bd un_not (gd rfl (bd rfl (gd rfl (bd (congrArg (pv _) f2) (bd (v := PV.bool true) rfl (cdT ?_)))))))
        exact bd un_not (gd rfl (bd e5 (bd (v := PV.bool true) rfl (bd res_bool rfl))))
      · rw [decide_eq_false hpl] at f2
        obtain ⟨P, rfl⟩ := Int.eq_ofNat_of_zero_le (show 0 ≤ pl by omega)
        have hP : P = 1 ∨ P = 2 := by omega
        have hP3 : 3 - P = 1 ∨ 3 - P = 2 := by omega
        obtain ⟨R, C, hS⟩ := sides_of hb
        have hB := board_of_sides hS
        obtain ⟨rfl, rfl, s1, s2, s3, s4, s9, slen, sall⟩ := id hS
        have hpb : playerB (P : Int) = true := by rcases hP with rfl | rfl <;> rfl
        obtain ⟨q4, h4, e4, o4, k4⟩ := hFi n (by omega) (R : Int) (C : Int) (P : Int) t3 hq3 (by omega) (by omega)
        have hfl : filledL (R : Int) (C : Int) xs (P : Int) = xs.map (fillL (P : Int)) := by unfold filledL; rw [hb, hpb]; rfl
        rw [hfl] at o4
        have hfb := filled_pos hb hP
        have hfs := filled_set hS hP
        have t4 := t3.keep k4
        have hq4 := hq3.keep k4
        have f3 : binP Tryd.prog .sub 3 (.int .i64 3) (.int .i64 (P : Int)) = some (.int .i64 ((3 - P : Nat) : Int)) := by
          rw [bin_sub, wr (by omega), show (3 : Int) - (P : Int) = ((3 - P : Nat) : Int) by omega]
        have hJe := joinsL_eq hb hP
        have feq : binP Tryd.prog .eql 4 (.bool (joinsL (R : Int) (C : Int) xs (P : Int))) (.bool (joinsL (R : Int) (C : Int) xs (P : Int))) = some (.bool true) := by rw [eqlB]; simp
        have rest : ∀ h5, Keep h4.length h4 h5 → ∃ h6 h7 q8 h8 h9 q10 h10 h11,
            CL g lf n fn_impl_Joins [.int .i64 (R : Int), .int .i64 (C : Int), q4, .int .i64 ((1 : Nat) : Int)] h5 = some (.bool (joinsN R C 1 (setL (xs.map (fillL (P : Int))) ((1 : Nat) : Int))), h6) ∧
            CL g lf n fn_impl_Joins [.int .i64 (R : Int), .int .i64 (C : Int), q4, .int .i64 ((2 : Nat) : Int)] h6 = some (.bool (joinsN R C 2 (setL (xs.map (fillL (P : Int))) ((2 : Nat) : Int))), h7) ∧
            binP Tryd.prog .neq 4 (.bool (joinsN R C 1 (setL (xs.map (fillL (P : Int))) ((1 : Nat) : Int)))) (.bool (joinsN R C 2 (setL (xs.map (fillL (P : Int))) ((2 : Nat) : Int)))) = some (.bool true) ∧
            CL g lf n fn_impl_HalfTurned [.int .i64 (R : Int), .int .i64 (C : Int), q] h7 = some (q8, h8) ∧
            CL g lf n fn_impl_Joins [.int .i64 (R : Int), .int .i64 (C : Int), q8, .int .i64 (P : Int)] h8 = some (.bool (joinsL (R : Int) (C : Int) xs (P : Int)), h9) ∧
            CL g lf n fn_impl_Mirrored [.int .i64 (R : Int), .int .i64 (C : Int), q] h9 = some (q10, h10) ∧
            CL g lf n fn_impl_Joins [.int .i64 (C : Int), .int .i64 (R : Int), q10, .int .i64 ((3 - P : Nat) : Int)] h10 = some (.bool (joinsL (R : Int) (C : Int) xs (P : Int)), h11) := by
          intro h5 k5
          have t5 := t4.keep k5
          have hq5 := hq4.keep k5
          have o5 := o4.keep k5
          obtain ⟨h6, e6, k6⟩ := hJ n (by omega) (R : Int) (C : Int) ((1 : Nat) : Int) t5 o5.int (by simp; omega) (by simp; omega)
          have t6 := t5.keep k6
          have hq6 := hq5.keep k6
          have o6 := o5.keep k6
          obtain ⟨h7, e7, k7⟩ := hJ n (by omega) (R : Int) (C : Int) ((2 : Nat) : Int) t6 o6.int (by simp; omega) (by simp; omega)
          have t7 := t6.keep k7
          have hq7 := hq6.keep k7
          rw [joinsL_eq hfb (.inl rfl)] at e6
          rw [joinsL_eq hfb (.inr rfl)] at e7
          have hSf : Sides (R : Int) (C : Int) R C (xs.map (fillL (P : Int))) := by
            obtain ⟨R', C', hS'⟩ := sides_of hfb
            obtain ⟨a1, a2, rest⟩ := id hS'
            obtain rfl : R' = R := by omega
            obtain rfl : C' = C := by omega
            exact hS'
          have hne : joinsN R C 1 (setL (xs.map (fillL (P : Int))) ((1 : Nat) : Int)) = !joinsN R C 2 (setL (xs.map (fillL (P : Int))) ((2 : Nat) : Int)) := by
            have := other_joins hSf (.inl rfl : (1 : Nat) = 1 ∨ (1 : Nat) = 2)
            rw [hfs.2.2, Nat.or_zero] at this
            exact this
          have f8 : binP Tryd.prog .neq 4 (.bool (joinsN R C 1 (setL (xs.map (fillL (P : Int))) ((1 : Nat) : Int)))) (.bool (joinsN R C 2 (setL (xs.map (fillL (P : Int))) ((2 : Nat) : Int)))) = some (.bool true) := by
            rw [neqB, hne]; cases joinsN R C 2 (setL (xs.map (fillL (P : Int))) ((2 : Nat) : Int)) <;> rfl
          obtain ⟨q8, h8, e8, o8, k8⟩ := halfTurned_N g lf n (by omega) (R : Int) (C : Int) hq7 (by omega) (by omega)
          have htu : turnL (R : Int) (C : Int) xs = xs.reverse := by unfold turnL; rw [hb]; rfl
          rw [htu] at o8
          have t8 := t7.keep k8
          have hq8 := hq7.keep k8
          have hrb : posB (R : Int) (C : Int) xs.reverse = true := by rw [posB_reverse]; exact hb
          obtain ⟨h9, e9, k9⟩ := hJ n (by omega) (R : Int) (C : Int) (P : Int) t8 o8.int (by simp; omega) (by simp; omega)
          rw [joinsL_eq hrb hP, joins_turned hS hP, ← hJe] at e9
          have t9 := t8.keep k9
          have hq9 := hq8.keep k9
          obtain ⟨q10, h10, e10, o10, k10⟩ := mirrored_calls g lf n (by omega) (R : Int) (C : Int) hq9 (by omega) (by omega)
          have hmi : mirL (R : Int) (C : Int) xs = mir R C xs := by unfold mirL; rw [hb]; rfl
          rw [hmi] at o10
          have hmb := posB_mir hS hb
          have t10 := t9.keep k10
          obtain ⟨h11, e11, k11⟩ := hJ n (by omega) (C : Int) (R : Int) ((3 - P : Nat) : Int) t10 o10.int (by rw [mir_length]; omega) (by rw [mir_length]; omega)
          rw [joinsL_eq hmb hP3, joins_mirrored hS hP, ← hJe] at e11
          exact ⟨h6, h7, q8, h8, h9, q10, h10, h11, e6, e7, f8, e8, e9, e10, e11⟩
        cases hjj : joinsL (R : Int) (C : Int) xs (P : Int) with
        | false =>
          obtain ⟨h6, h7, q8, h8, h9, q10, h10, h11, e6, e7, f8, e8, e9, e10, e11⟩ := rest h4 (Keep.refl _ _)
          rw [hjj] at e2 e3 f1 e9 e11 feq
          refine ⟨h11, ?_⟩
          unfold laws_FnJoins.main
          refine bd hlenp (bd f0 (cdF (bd e1 (bd extract_tup (bd extract_tup (bd extract_tup (bd extract_tup (bd e2 (bd e3 (bd f1 (cdF ?_)))))))))))
          refine bd hpos (bd un_not (gd rfl (bd rfl (gd rfl (bd (congrArg (pv _) f2) (bd (v := PV.bool false) rfl (cdF ?_)))))))
          refine bd e4 (bd f3 ?_)
          refine gn rfl (bd rfl (gn rfl (bd rfl (gn rfl (bd rfl (gn rfl (bd rfl (gn rfl (bd rfl (bd (v := PV.bool false) rfl ?_))))))))))
          refine bd un_not ?_
          refine gd rfl (bd rfl (gd rfl (bd rfl (gd rfl (bd rfl (gd rfl (bd e6 ?_)))))))
          refine gd rfl (bd rfl (gd rfl (bd rfl (gd rfl (bd rfl (gd rfl (bd e7 (gd rfl (bd (congrArg (pv _) f8) (bd (v := PV.bool true) rfl ?_))))))))))
          refine gd rfl (bd rfl (gd rfl (bd rfl (gd rfl (bd rfl (gd rfl (bd rfl (gd rfl (bd rfl (gd rfl (bd e8 ?_)))))))))))
          refine gd rfl (bd rfl (gd rfl (bd e9 (gd rfl (bd rfl (gd rfl (bd (congrArg (pv _) feq) (bd (v := PV.bool true) rfl ?_))))))))
          refine gd rfl (bd rfl (gd rfl (bd rfl (gd rfl (bd rfl (gd rfl (bd rfl (gd rfl (bd rfl (gd rfl (bd e10 ?_)))))))))))
          exact gd rfl (bd rfl (gd rfl (bd e11 (gd rfl (bd rfl (gd rfl (bd (congrArg (pv _) feq) (bd (v := PV.bool true) rfl (bd res_bool rfl)))))))))
        | true =>
          have hnb := never_both hS hP (by rw [← hJe]; exact hjj)
          obtain ⟨h5, e, k5⟩ := hJ n (by omega) (R : Int) (C : Int) ((3 - P : Nat) : Int) t4 hq4 (by omega) (by omega)
          rw [joinsL_eq hb hP3, hnb] at e
          obtain ⟨h6, h7, q8, h8, h9, q10, h10, h11, e6, e7, f8, e8, e9, e10, e11⟩ := rest h5 k5
          rw [hjj] at e2 e3 f1 e9 e11 feq
          refine ⟨h11, ?_⟩
          unfold laws_FnJoins.main
          refine bd hlenp (bd f0 (cdF (bd e1 (bd extract_tup (bd extract_tup (bd extract_tup (bd extract_tup (bd e2 (bd e3 (bd f1 (cdF ?_)))))))))))
          refine bd hpos (bd un_not (gd rfl (bd rfl (gd rfl (bd (congrArg (pv _) f2) (bd (v := PV.bool false) rfl (cdF ?_)))))))
          refine bd e4 (bd f3 ?_)
          refine gd rfl (bd rfl (gd rfl (bd rfl (gd rfl (bd rfl (gd rfl (bd rfl (gd rfl (bd e (bd (v := PV.bool false) rfl ?_))))))))))
          refine bd un_not ?_
          refine gd rfl (bd rfl (gd rfl (bd rfl (gd rfl (bd rfl (gd rfl (bd e6 ?_)))))))
          refine gd rfl (bd rfl (gd rfl (bd rfl (gd rfl (bd rfl (gd rfl (bd e7 (gd rfl (bd (congrArg (pv _) f8) (bd (v := PV.bool true) rfl ?_))))))))))
          refine gd rfl (bd rfl (gd rfl (bd rfl (gd rfl (bd rfl (gd rfl (bd rfl (gd rfl (bd rfl (gd rfl (bd e8 ?_)))))))))))
          refine gd rfl (bd rfl (gd rfl (bd e9 (gd rfl (bd rfl (gd rfl (bd (congrArg (pv _) feq) (bd (v := PV.bool true) rfl ?_))))))))
          refine gd rfl (bd rfl (gd rfl (bd rfl (gd rfl (bd rfl (gd rfl (bd rfl (gd rfl (bd rfl (gd rfl (bd e10 ?_)))))))))))
          exact gd rfl (bd rfl (gd rfl (bd e11 (gd rfl (bd rfl (gd rfl (bd (congrArg (pv _) feq) (bd (v := PV.bool true) rfl (bd res_bool rfl)))))))))

end Go.Proofs.YtiflfnlpkhghpaaDoor
