/- The laws of chapter 2 over what the program's functions are asked to compute: the draws, the exact laws, and promise 9. -/
import Derived.Test.YtiflfnlpkhghpaaT4
namespace Go.Proofs.Ytiflfnlpkhghpaa
open Go Go.Ip G

/-- What the program's functions may read besides: the table of steps, where there is one. -/
def TabOk (_ : Nat → PV) (_ : PHeap) : Prop := True
theorem TabOk.keep {g : Nat → PV} {h h' : PHeap} (_ : TabOk g h) (_ : Keep h.length h h') : TabOk g h' := trivial

def FilledOk (g : Nat → PV) (lf : Nat) : Prop := ∀ (N : Nat), 20 ≤ N → ∀ (r c pl : Int) {xs : List Int} {p : PV} {h : PHeap}, TabOk g h → IntSl .i64 h p xs → xs.length ≤ 2 ^ 35 → xs.length < lf →
  ∃ q h', CL g lf N fn_impl_Filled [.int .i64 r, .int .i64 c, p, .int .i64 pl] h = some (q, h') ∧ OwnSl h.length h' q (filledL r c xs pl) ∧ Keep h.length h h'
variable (g : Nat → PV) (lf n : Nat)

/-! ### the exact laws -/
/-- Of two functions that make one list of a position both sides of an exact law come out the same: what the law looks at, in its order. -/
theorem exact_chain2 {xs L : List Int} {p : PV} {h : PHeap} (N : Nat) (hN : 1 ≤ N) (fS fI : PV → PHeap → Res)
    (hS : ∀ q hh, Keep h.length h hh → IntSl .i64 hh q xs → ∃ w h', fS q hh = some (w, h') ∧ OwnSl hh.length h' w L ∧ Keep hh.length hh h')
    (hI : ∀ q hh, Keep h.length h hh → IntSl .i64 hh q xs → ∃ w h', fI q hh = some (w, h') ∧ OwnSl hh.length h' w L ∧ Keep hh.length hh h')
    (hp : IntSl .i64 h p xs) (hl : xs.length ≤ 1048576) (hL : L.length ≤ 1048576) (hf : 1048576 < lf) :
    ∃ q1 h1 w h2 q3 h3 g0 h4 y h5 h6 h7 q8 h8 g1 h9, CL g lf N fn_laws_toIntS [p] h = some (q1, h1) ∧ fS q1 h1 = some (w, h2) ∧ CL g lf N fn_laws_toIntS [p] h2 = some (q3, h3) ∧ fI q3 h3 = some (g0, h4) ∧
      CL g lf N fn_laws_eqIntS [g0, w] h4 = some (.bool true, h4) ∧ CL g lf N fn_laws_toIntS [p] h4 = some (y, h5) ∧ CL g lf N fn_laws_eqIntS [q3, y] h5 = some (.bool true, h5) ∧
      CL g lf N fn_laws_markIntS [q3, .int .i64 1] h5 = some (.int .i64 (1 + xs.length), h6) ∧ CL g lf N fn_laws_eqIntS [g0, w] h6 = some (.bool true, h6) ∧
      CL g lf N fn_laws_markIntS [g0, .int .i64 1] h6 = some (.int .i64 (1 + L.length), h7) ∧ CL g lf N fn_laws_heldIntS [g0, .int .i64 1] h7 = some (.int .i64 (1 + L.length), h7) ∧
      CL g lf N fn_laws_toIntS [p] h7 = some (q8, h8) ∧ fI q8 h8 = some (g1, h9) ∧ CL g lf N fn_laws_eqIntS [g1, w] h9 = some (.bool true, h9) ∧ CL g lf N fn_laws_heldIntS [g0, .int .i64 1] h9 = some (.int .i64 (1 + L.length), h9) := by
  obtain ⟨n, rfl⟩ : ∃ n, N = n + 1 := ⟨N - 1, by omega⟩
  obtain ⟨q1, h1, e1, o1, k1⟩ := toIntS_calls g lf (n + 1) (by omega) hp (by omega) (by omega)
  obtain ⟨w, h2, e2, ow, k2⟩ := hS q1 h1 k1 o1.int
  have K2 : Keep h.length h h2 := k1.trans (k2.mono k1.1)
  obtain ⟨q3, h3, e3, o3, k3⟩ := toIntS_calls g lf (n + 1) (by omega) (hp.keep K2) (by omega) (by omega)
  have K3 : Keep h.length h h3 := K2.trans (k3.mono K2.1)
  obtain ⟨g0, h4, e4, og, k4⟩ := hI q3 h3 K3 o3.int
  have K4 : Keep h.length h h4 := K3.trans (k4.mono K3.1)
  obtain ⟨y, h5, e5, oy, k5⟩ := toIntS_calls g lf (n + 1) (by omega) (hp.keep K4) (by omega) (by omega)
  have K5 : Keep h.length h h5 := K4.trans (k5.mono K4.1)
  have w2 := ow.b
  have w3 := w2.keep k3
  have w4 := w3.keep (k4.mono k3.1)
  have w5 := w4.keep (k5.mono (Nat.le_trans k3.1 k4.1))
  have x3 := o3.b
  have x4 := x3.keep k4
  have x5 := x4.keep (k5.mono k4.1)
  have g4 := og.b
  have g5 := g4.keep k5
  have s4 := eqIntS_calls g lf n og.int w4.int (by omega) (by omega)
  have s5 := eqIntS_calls g lf n x5.int oy.int (by omega) (by omega)
  obtain ⟨h6, e6, x6, t6⟩ := markIntS_calls g lf (n + 1) (by omega) x5 (by omega) (by omega)
  have K6 : Keep h.length h h6 := K5.trans (t6.keep.mono (K2.1))
  have w6 := w5.only t6 (.inl (Nat.le_refl _))
  have g6 := g5.only t6 (.inr (Nat.le_refl _))
  have s6 := eqIntS_calls g lf n g6.int w6.int (by omega) (by omega)
  obtain ⟨h7, e7, g7, t7⟩ := markIntS_calls g lf (n + 1) (by omega) g6 (by omega) (by omega)
  have K7 : Keep h.length h h7 := K6.trans (t7.keep.mono (K3.1))
  have w7 := w6.only t7 (.inl k3.1)
  have s7 := heldIntS_calls g lf (n + 1) (by omega) g7.int (by omega) (by omega)
  obtain ⟨q8, h8, e8, o8, k8⟩ := toIntS_calls g lf (n + 1) (by omega) (hp.keep K7) (by omega) (by omega)
  obtain ⟨g1, h9, e9, o9, k9⟩ := hI q8 h8 (K7.trans (k8.mono K7.1)) o8.int
  have len7 : h4.length ≤ h7.length := by rw [t7.1, t6.1]; exact k5.1
  have len2 : h2.length ≤ h7.length := Nat.le_trans (Nat.le_trans k3.1 k4.1) len7
  have w8 := w7.keep (k8.mono len2)
  have w9 := w8.keep (k9.mono (Nat.le_trans len2 k8.1))
  have g8 := g7.keep (k8.mono len7)
  have g9 := g8.keep (k9.mono (Nat.le_trans len7 k8.1))
  have s9 := eqIntS_calls g lf n o9.int w9.int (by omega) (by omega)
  have s10 := heldIntS_calls g lf (n + 1) (by omega) g9.int (by omega) (by omega)
  simp only [decide_true] at s4 s5 s6 s9
  exact ⟨q1, h1, w, h2, q3, h3, g0, h4, y, h5, h6, h7, q8, h8, g1, h9, e1, e2, e3, e4, s4, e5, s5, e6, s6, e7, s7, e8, e9, s9, s10⟩


theorem groupL_length (r c : Int) (xs : List Int) (k : Int) : (groupL r c xs k).length ≤ 9 := by
  unfold groupL; split
  · exact listN_length _
  · simp
theorem filledL_length (r c : Int) (xs : List Int) (p : Int) : (filledL r c xs p).length ≤ xs.length := by
  unfold filledL; split <;> simp
theorem gapCellsL_length (r c : Int) (xs : List Int) (p : Int) : (gapCellsL r c xs p).length ≤ xs.length := by
  unfold gapCellsL; split
  · rw [List.length_map]
    refine Nat.le_trans (List.length_filter_le _ _) ?_
    rw [List.length_range]; exact Nat.le_refl _
  · simp

theorem exactFilled_calls (hok : FilledOk g lf) {xs : List Int} {p : PV} {h : PHeap} (N : Nat) (hN : 21 ≤ N) (r c x : Int) (ht : TabOk g h) (hp : IntSl .i64 h p xs) (hf : 1048576 < lf) :
    ∃ h', CL g lf N fn_laws_FnExactFilled [.int .i64 r, .int .i64 c, p, .int .i64 x] h = some (.bool true, h') := by
  obtain ⟨n, rfl⟩ : ∃ n, N = n + 1 := ⟨N - 1, by omega⟩
  rw [laws_FnExactFilled.call_eq]
  by_cases hbig : (1048576 : Int) < (xs.length : Int)
  · exact ⟨h, by simp [laws_FnExactFilled.main, hp.len', hbig]⟩
  · have hl : xs.length ≤ 1048576 := by omega
    have hL := filledL_length r c xs x
    obtain ⟨q1, h1, w, h2, q3, h3, g0, h4, y, h5, h6, h7, q8, h8, g1, h9, e1, e2, e3, e4, e5, e6, e7, e8, e9, e10, e11, e12, e13, e14, e15⟩ := exact_chain2 g lf n (by omega)
      (fun q h => CL g lf n fn_spec_Filled [.int .i64 r, .int .i64 c, q, .int .i64 x] h) (fun q h => CL g lf n fn_impl_Filled [.int .i64 r, .int .i64 c, q, .int .i64 x] h)
      (fun q hh _ hq => specFilled_calls g lf n (by omega) r c x hq (by omega) (by omega) (by omega)) (fun q hh hk hq => hok n (by omega) r c x (ht.keep hk) hq (by omega) (by omega)) hp hl (by omega) hf
    refine ⟨h9, ?_⟩
    have c1 : ¬ ((1 : Int) + (xs.length : Int) < 0) := by omega
    have c2 : ¬ ((1 : Int) + ((filledL r c xs x).length : Int) < 0) := by omega
    simp [laws_FnExactFilled.main, hp.len', hbig, e1, e2, e3, e4, e5, e6, e7, e8, e9, e10, e11, e12, e13, e14, e15, c1, c2]

/-! ### the draws -/
/-- Behind a position that is none, or a player that is none. -/
theorem joinsL_none {r c : Int} {xs : List Int} {pl : Int} (h : posB r c xs = false ∨ 2 < pl) : joinsL r c xs pl = false := by
  unfold joinsL playerB
  rcases h with h | h
  · rw [h]; rfl
  · rw [decide_eq_false (show ¬ (1 ≤ pl ∧ pl ≤ 2) by omega), Bool.and_false, Bool.false_and]
theorem gapL_none {r c : Int} {xs : List Int} {pl : Int} (h : posB r c xs = false ∨ 2 < pl) : gapL r c xs pl = -1 := by
  unfold gapL playerB
  rcases h with h | h
  · rw [h]; rfl
  · rw [decide_eq_false (show ¬ (1 ≤ pl ∧ pl ≤ 2) by omega), Bool.and_false]; rfl

end Go.Proofs.Ytiflfnlpkhghpaa
