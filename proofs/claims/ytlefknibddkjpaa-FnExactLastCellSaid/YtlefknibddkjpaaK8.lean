/- Texts of this seat, in their order, put together by program. -/
import Derived.Test.YtlefknibddkjpaaK7
set_option linter.unusedSimpArgs false
set_option linter.unusedVariables false
set_option linter.unusedSectionVars false
/- The draws of chapter 7. -/
set_option maxRecDepth 20000
namespace Go.Proofs.Ytlefknibddkjpaa
open Go Go.Ip G

variable (g : Nat → PV) (lf n : Nat)

theorem bnd_app {zs : List Int} {v : Int} (h : ∀ x ∈ zs, 0 ≤ x ∧ x ≤ 3) (hv : 0 ≤ v ∧ v ≤ 3) : ∀ x ∈ zs ++ [v], 0 ≤ x ∧ x ≤ 3 := fun x hx => by
  rcases List.mem_append.1 hx with h1 | h1
  · exact h x h1
  · rw [List.mem_singleton.1 h1]; exact hv
theorem bnd_set {zs : List Int} {v : Int} {i : Nat} (h : ∀ x ∈ zs, 0 ≤ x ∧ x ≤ 3) (hv : 0 ≤ v ∧ v ≤ 3) : ∀ x ∈ zs.set i v, 0 ≤ x ∧ x ≤ 3 := fun x hx => by
  rcases List.mem_or_eq_of_mem_set hx with h1 | h1
  · exact h x h1
  · rw [h1]; exact hv
theorem lit_bnd {J : Nat} (h : J < ([0, 3] : List Int).length) : 0 ≤ ([0, 3] : List Int)[J] ∧ ([0, 3] : List Int)[J] ≤ 3 := by
  have := List.getElem_mem h
  generalize ([0, 3] : List Int)[J] = x at this
  simp at this
  omega

theorem triangle_W {h : PHeap} {id m : Nat} (N : Nat) (hN : 4 ≤ N) (k : Int) (hr : Rd h id m) (hm : m ≤ 500000) (hk0 : 1 ≤ k) (hk : k ≤ 1000) (hlf : 20 < lf) :
    W (CL g lf N fn_spec_l20Triangle [.ptr id 0, .int .i64 k] h) fun v h' => ∃ (s : Int) (q : PV) (xs : List Int), v = .tup [.int .i64 s, q] ∧ Keep id h h' ∧ OwnSl (id + 1) h' q xs ∧ xs.length ≤ 11 ∧ (∀ x ∈ xs, 0 ≤ x ∧ x ≤ 3) ∧ 1 ≤ s ∧ s ≤ 5 ∧ Rd h' id (m + 20) := by
  obtain ⟨n, rfl⟩ : ∃ n, N = n + 1 := ⟨N - 1, by omega⟩
  have hidl : id < h.length := by
    obtain ⟨_, _, _, e, _⟩ := hr
    exact (List.getElem?_eq_some_iff.1 e).1
  obtain ⟨v1, h1, e1, r1, ok1, a1, a2, _⟩ := pick_calls g lf n (by omega) 4 hr (by omega) (by omega)
  have a2' := a2 (by omega)
  obtain ⟨V, rfl⟩ := Int.eq_ofNat_of_zero_le a1
  have hside : (1 : Int) + (V : Int) = ((V + 1 : Nat) : Int) := by omega
  obtain ⟨s, hs⟩ : ∃ s, s = V + 1 := ⟨_, rfl⟩
  rw [← hs] at hside
  have s1 : 1 ≤ s := by omega
  have s4 : s ≤ 4 := by omega
  have hc10 := cellsT_le s4
  have hc1 : 0 < cellsT s := by
    have : s = 1 ∨ s = 2 ∨ s = 3 ∨ s = 4 := by omega
    rcases this with rfl | rfl | rfl | rfl <;> decide
  have eC := fun hh => l7Cells_N g lf (s := s) (by omega) n (by omega) hh
  obtain ⟨T, hT⟩ : ∃ T, T = cellsT s := ⟨_, rfl⟩
  rw [← hT] at eC hc10 hc1
  have kk1 := ok1.keep
  have hl1 := ok1.1
  have hw1 : -4611686018427387904 ≤ (1 : Int) + (V : Int) ∧ (1 : Int) + (V : Int) ≤ 4611686018427387904 := by omega
  rw [spec_l20Triangle.call_eq]
  unfold spec_l20Triangle.main
  simp only [env_C, env_lf, env_buildSlice, env_bin]
  repeat (first | with_reducible refine wbd (by assumption) ?_ | (with_reducible refine wadd hw1 ?_) | (rw [hside]) | dsimp only)
  refine wempty fun q h2 o2 k2 => ?_
  refine loopW (fun m' st => ∃ (i : Nat) (q : PV) (zs : List Int) (h3 : PHeap), st = spec_l20Triangle.st0 (.ptr id 0) (.int .i64 k) (.int .i64 (s : Int)) q (.int .i64 (i : Int)) h3 ∧ i + m' = T ∧ zs.length = i ∧ (∀ x ∈ zs, 0 ≤ x ∧ x ≤ 3) ∧ OwnSl (id + 1) h3 q zs ∧ Keep id h h3 ∧ Rd h3 id (m + 1 + i)) ?_ lf T _ (by omega) ⟨0, q, [], h2, rfl, by omega, rfl, (fun _ h => nomatch h), o2.mono (by omega), kk1.trans (k2.mono (by omega)), r1.keep k2 (by omega)⟩
  rintro n1 m' st ⟨i, q, zs, h3, rfl, him, hz, hb, o3, k3, r3⟩ next
  have hl3 := k3.1
  have hid3 : id < h3.length := by
    obtain ⟨_, _, _, e, _⟩ := r3
    exact (List.getElem?_eq_some_iff.1 e).1
  rw [spec_l20Triangle.body0_eq]
  unfold spec_l20Triangle.body0
  simp only [env_C, env_buildSlice, env_bin, env_append]
  cases m' with
  | succ m' =>
    obtain ⟨v2, h4, e4, r4, ok4, b1, b2, _⟩ := pick_calls g lf n (by omega) 2 r3 (by omega) (by omega)
    have b2' := b2 (by omega)
    have o4 := o3.keepOnly ok4 (by omega)
    have k4 := k3.trans ok4.keep
    have hl4 := ok4.1
    have hw2 : -4611686018427387904 ≤ (1 : Int) + v2 ∧ (1 : Int) + v2 ≤ 4611686018427387904 := by omega
    repeat (first | with_reducible refine wT ?_ | with_reducible refine wbd (by assumption) ?_ | (with_reducible refine wbd (eC _) ?_) | (with_reducible refine wadd hw2 ?_) | with_reducible refine wlssT (by omega) ?_ | dsimp only)
    repeat (first | (refine wap o4 (by omega) (by omega) fun p' h6 o6 k6 => ?_) | with_reducible refine wadd1 (by omega) ?_ | dsimp only)
    exact next _ _ (Nat.lt_succ_self m') ⟨i + 1, p', zs ++ [1 + v2], h6, rfl, by omega, by simp; omega, bnd_app hb (by omega), o6, k4.trans (k6.mono (by omega)), r4.keep k6 (by omega)⟩
  | zero =>
    have hiT : i = T := by omega
    obtain ⟨b, h5, e5, r5, ok5⟩ := odd_calls g lf n (by omega) k r3 (by omega) (by omega) hk0
    have o5 := o3.keepOnly ok5 (by omega)
    have k5 := k3.trans ok5.keep
    have hl5 := ok5.1
    cases b with
    | false =>
      have hres := o5.res
      repeat (first | with_reducible refine wF ?_ | with_reducible refine wrI ?_ | with_reducible refine wbd (by assumption) ?_ | (with_reducible refine wbd (eC _) ?_) | with_reducible refine wlssF (by omega) ?_ | rw [kLoop_exit] | rw [spec_l20Triangle.after0_se0_0_1_6_7_8_16] | dsimp only | simp only [env_C, env_g, env_lf, env_pick, env_alloc, env_box, env_build, env_buildSlice, env_load, env_store, env_ptr, env_bin, env_un, env_conv, env_make, env_slice, env_fieldAddr, env_field, env_indexAddr, env_index, env_extract, env_len, env_append, env_max, env_min, env_makeMap, env_lookup, env_update])
      exact W.ret ⟨s, q, zs, rfl, k5, o5, by omega, hb, by omega, by omega, r5.mono (by omega)⟩
    | true =>
      obtain ⟨v6, h6, e6, r6, ok6, c1, c2, _⟩ := pick_calls g lf n (by omega) 3 r5 (by omega) (by omega)
      have c2' := c2 (by omega)
      have o6 := o5.keepOnly ok6 (by omega)
      have k6 := k5.trans ok6.keep
      have hl6 := ok6.1
      have hres := o6.res
      by_cases d0 : v6 = 0
      · repeat (first | with_reducible refine wT ?_ | with_reducible refine wF ?_ | with_reducible refine wrI ?_ | with_reducible refine wbd (by assumption) ?_ | (with_reducible refine wbd (eC _) ?_) | with_reducible refine wlssF (by omega) ?_ | with_reducible refine weqlT (by omega) ?_ | rw [kLoop_exit] | rw [spec_l20Triangle.after0_se0_0_1_6_7_8_16] | dsimp only | simp only [env_C, env_g, env_lf, env_pick, env_alloc, env_box, env_build, env_buildSlice, env_load, env_store, env_ptr, env_bin, env_un, env_conv, env_make, env_slice, env_fieldAddr, env_field, env_indexAddr, env_index, env_extract, env_len, env_append, env_max, env_min, env_makeMap, env_lookup, env_update])
        exact W.ret ⟨5, q, zs, rfl, k6, o6, by omega, hb, by omega, by omega, r6.mono (by omega)⟩
      · by_cases d1 : v6 = 1
        · have e7 : buildSliceP Try.prog 23 2 [(0, .int .i64 0), (1, .int .i64 3)] h6 = some (.sl h6.length 0 2, h6 ++ [.own 1 [.int .i64 0, .int .i64 3]]) := by simpa using lit2 h6 [] 0 3
          have oL : OwnSl (id + 1) (h6 ++ [.own 1 [.int .i64 0, .int .i64 3]]) (.sl h6.length 0 2) [0, 3] := .inr ⟨h6.length, by omega, rfl, by simp⟩
          have k7 : Keep h6.length h6 (h6 ++ [.own 1 [.int .i64 0, .int .i64 3]]) := ⟨by simp, fun j hj => List.getElem?_append_left hj⟩
          obtain ⟨h7, hh7⟩ : ∃ h7, h7 = h6 ++ [PObj.own 1 [PV.int .i64 0, PV.int .i64 3]] := ⟨_, rfl⟩
          rw [← hh7] at e7 oL k7
          have o7 := o6.keep k7
          have r7 := r6.keep k7 (by omega)
          have hl7 := k7.1
          obtain ⟨v8, h8, e8, r8, ok8, f1, f2, _⟩ := pick_calls g lf n (by omega) 2 r7 (by omega) (by omega)
          have f2' := f2 (by omega)
          obtain ⟨J, rfl⟩ := Int.eq_ofNat_of_zero_le f1
          have o8 := o7.keepOnly ok8 (by omega)
          have oL8 := oL.keepOnly ok8 (by omega)
          have hl8 := ok8.1
          obtain ⟨a, ea, la⟩ := oL8.int.at' (i := J) (show J < 2 by omega)
          have hz0 : 0 < zs.length := by omega
          repeat (first | with_reducible refine wT ?_ | with_reducible refine wF ?_ | with_reducible refine wbd (by assumption) ?_ | (with_reducible refine wbd (eC _) ?_) | with_reducible refine wlssF (by omega) ?_ | with_reducible refine weqlT (by omega) ?_ | with_reducible refine weqlF (by omega) ?_ | rw [kLoop_exit] | rw [spec_l20Triangle.after0_se0_0_1_6_7_8_16] | dsimp only | simp only [env_C, env_g, env_lf, env_pick, env_alloc, env_box, env_build, env_buildSlice, env_load, env_store, env_ptr, env_bin, env_un, env_conv, env_make, env_slice, env_fieldAddr, env_field, env_indexAddr, env_index, env_extract, env_len, env_append, env_max, env_min, env_makeMap, env_lookup, env_update])
          refine wst (i := 0) o8 hz0 fun h9 o9 k9 l9 a9 e9 => ?_
          have hres9 := o9.res
          repeat (first | with_reducible refine wrI ?_ | with_reducible refine wbd (by assumption) ?_)
          exact W.ret ⟨s, q, _, rfl, k6.trans ((k7.mono (by omega)).trans (ok8.keep.trans (k9.mono (by omega)))), o9, by simp; omega, bnd_set hb (lit_bnd _), by omega, by omega, (r8.keep k9 (by omega)).mono (by omega)⟩
        · repeat (first | with_reducible refine wT ?_ | with_reducible refine wF ?_ | with_reducible refine wbd (by assumption) ?_ | (with_reducible refine wbd (eC _) ?_) | with_reducible refine wlssF (by omega) ?_ | with_reducible refine weqlF (by omega) ?_ | rw [kLoop_exit] | rw [spec_l20Triangle.after0_se0_0_1_6_7_8_16] | dsimp only | simp only [env_C, env_g, env_lf, env_pick, env_alloc, env_box, env_build, env_buildSlice, env_load, env_store, env_ptr, env_bin, env_un, env_conv, env_make, env_slice, env_fieldAddr, env_field, env_indexAddr, env_index, env_extract, env_len, env_append, env_max, env_min, env_makeMap, env_lookup, env_update])
          repeat (first | with_reducible refine wrI ?_ | (refine wap o6 (by omega) (by omega) fun p' h7 o7 k7 => ?_) | with_reducible refine wresO (by assumption) ?_ | dsimp only)
          have hres7 := o7.res
          skip
          exact W.ret ⟨s, p', _, rfl, k6.trans (k7.mono (by omega)), o7, by simp; omega, bnd_app hb (by decide), by omega, by omega, (r6.keep k7 (by omega)).mono (by omega)⟩

theorem drawTriangleOk_W {p : PV} {ys : List Int} {h : PHeap} (N : Nat) (hN : 6 ≤ N) (ha : Arg h p ys) (hlf : 20 < lf) :
    ∃ (s : Int) (q : PV) (xs : List Int) (h' : PHeap), CL g lf N fn_spec_DrawTriangleOk [p] h = some (.tup [.int .i64 s, q], h') ∧ Keep h.length h h' ∧ IntSl .i64 h' q xs ∧ xs.length ≤ 11 ∧ (∀ x ∈ xs, 0 ≤ x ∧ x ≤ 3) ∧ 1 ≤ s ∧ s ≤ 5 := by
  obtain ⟨n, rfl⟩ : ∃ n, N = n + 1 := ⟨N - 1, by omega⟩
  have : W (CL g lf (n + 1) fn_spec_DrawTriangleOk [p] h) fun v h' => ∃ (s : Int) (q : PV) (xs : List Int), v = .tup [.int .i64 s, q] ∧ Keep h.length h h' ∧ IntSl .i64 h' q xs ∧ xs.length ≤ 11 ∧ (∀ x ∈ xs, 0 ≤ x ∧ x ≤ 3) ∧ 1 ≤ s ∧ s ≤ 5 := by
    obtain ⟨h1, e1, r1, k1⟩ := open_calls g lf n (by omega) ha
    rw [spec_DrawTriangleOk.call_eq]
    unfold spec_DrawTriangleOk.main
    simp only [env_C, env_extract]
    repeat (first | with_reducible refine wbd (by assumption) ?_ | dsimp only)
    refine wcall (triangle_W g lf n (by omega) 2 r1 (by omega) (by omega) (by omega) hlf) fun v h2 ⟨s, q, xs, hv, k2, o2, hl, hbd, h1s, h5s, _⟩ => ?_
    subst hv
    have hres := o2.res
    repeat (first | with_reducible refine wrI ?_ | with_reducible refine wx0 ?_ | with_reducible refine wx1 ?_ | with_reducible refine wbd (by assumption) ?_ | dsimp only)
    exact W.ret ⟨s, q, xs, rfl, k1.trans k2, o2.int, hl, hbd, h1s, h5s⟩
  obtain ⟨v, h', e, s, q, xs, rfl, rest⟩ := this
  exact ⟨s, q, xs, h', e, rest⟩

theorem drawTurnedTriangle_W {p : PV} {ys : List Int} {h : PHeap} (N : Nat) (hN : 6 ≤ N) (ha : Arg h p ys) (hlf : 20 < lf) :
    ∃ (s : Int) (q : PV) (xs : List Int) (h' : PHeap), CL g lf N fn_spec_DrawTurnedTriangle [p] h = some (.tup [.int .i64 s, q], h') ∧ Keep h.length h h' ∧ IntSl .i64 h' q xs ∧ xs.length ≤ 11 ∧ (∀ x ∈ xs, 0 ≤ x ∧ x ≤ 3) ∧ 1 ≤ s ∧ s ≤ 5 := by
  obtain ⟨n, rfl⟩ : ∃ n, N = n + 1 := ⟨N - 1, by omega⟩
  have : W (CL g lf (n + 1) fn_spec_DrawTurnedTriangle [p] h) fun v h' => ∃ (s : Int) (q : PV) (xs : List Int), v = .tup [.int .i64 s, q] ∧ Keep h.length h h' ∧ IntSl .i64 h' q xs ∧ xs.length ≤ 11 ∧ (∀ x ∈ xs, 0 ≤ x ∧ x ≤ 3) ∧ 1 ≤ s ∧ s ≤ 5 := by
    obtain ⟨h1, e1, r1, k1⟩ := open_calls g lf n (by omega) ha
    rw [spec_DrawTurnedTriangle.call_eq]
    unfold spec_DrawTurnedTriangle.main
    simp only [env_C, env_extract]
    repeat (first | with_reducible refine wbd (by assumption) ?_ | dsimp only)
    refine wcall (triangle_W g lf n (by omega) 9 r1 (by omega) (by omega) (by omega) hlf) fun v h2 ⟨s, q, xs, hv, k2, o2, hl, hbd, h1s, h5s, _⟩ => ?_
    subst hv
    have hres := o2.res
    repeat (first | with_reducible refine wrI ?_ | with_reducible refine wx0 ?_ | with_reducible refine wx1 ?_ | with_reducible refine wbd (by assumption) ?_ | dsimp only)
    exact W.ret ⟨s, q, xs, rfl, k1.trans k2, o2.int, hl, hbd, h1s, h5s⟩
  obtain ⟨v, h', e, s, q, xs, rfl, rest⟩ := this
  exact ⟨s, q, xs, h', e, rest⟩

section
variable {Q : PV → PHeap → Prop} {x : Nat} {f : PV → Res}
end

end Go.Proofs.Ytlefknibddkjpaa

/- The exact laws of chapter 7 over what the program's functions are asked to compute. -/
set_option maxRecDepth 20000
namespace Go.Proofs.Ytlefknibddkjpaa
open Go Go.Ip G

/-- What is asked of the program's functions of chapter 7. -/
def TriangleOkOk7 (g : Nat → PV) (lf : Nat) : Prop := ∀ (N : Nat), 40 ≤ N → ∀ (side : Int) {xs : List Int} {p : PV} {h : PHeap}, TabOk g h → IntSl .i64 h p xs → xs.length ≤ 2 ^ 35 → xs.length < lf →
  ∃ h', CL g lf N fn_impl_TriangleOk [.int .i64 side, p] h = some (.bool (triB side xs), h') ∧ Keep h.length h h'
def LastCellOk7 (g : Nat → PV) (lf : Nat) : Prop := ∀ (N : Nat), 40 ≤ N → ∀ (side : Int) {xs : List Int} {p : PV} {h : PHeap}, TabOk g h → IntSl .i64 h p xs → xs.length ≤ 2 ^ 35 → xs.length < lf →
  ∃ h', CL g lf N fn_impl_LastCell [.int .i64 side, p] h = some (.int .i64 (lastL side xs), h') ∧ Keep h.length h h'
def ShrunkOk7 (g : Nat → PV) (lf : Nat) : Prop := ∀ (N : Nat), 40 ≤ N → ∀ (side : Int) {xs : List Int} {p : PV} {h : PHeap}, TabOk g h → IntSl .i64 h p xs → xs.length ≤ 2 ^ 35 → xs.length < lf →
  ∃ q h', CL g lf N fn_impl_Shrunk [.int .i64 side, p] h = some (q, h') ∧ OwnSl h.length h' q (shrunkL side xs) ∧ Keep h.length h h'
def TurnedTriangleOk7 (g : Nat → PV) (lf : Nat) : Prop := ∀ (N : Nat), 40 ≤ N → ∀ (side : Int) {xs : List Int} {p : PV} {h : PHeap}, TabOk g h → IntSl .i64 h p xs → xs.length ≤ 2 ^ 35 → xs.length < lf →
  ∃ q h', CL g lf N fn_impl_TurnedTriangle [.int .i64 side, p] h = some (q, h') ∧ OwnSl h.length h' q (turnedL side xs) ∧ Keep h.length h h'
theorem shrunkL_length (side : Int) (xs : List Int) : (shrunkL side xs).length ≤ 10 := by
  unfold shrunkL; split
  · rename_i h
    rw [Bool.and_eq_true] at h
    obtain ⟨s, A, hT⟩ := tri_of h.1
    obtain ⟨rfl, _, s4, _⟩ := id hT
    rw [fillT_length, Int.toNat_natCast]; exact cellsT_le (by omega)
  · exact Nat.zero_le _
theorem turnedL_length (side : Int) (xs : List Int) : (turnedL side xs).length ≤ 10 := by
  unfold turnedL; split
  · rename_i h
    obtain ⟨s, A, hT⟩ := tri_of h
    obtain ⟨rfl, _, s4, _⟩ := id hT
    rw [fillT_length, Int.toNat_natCast]; exact cellsT_le s4
  · exact Nat.zero_le _

variable (g : Nat → PV) (lf n : Nat)

theorem exactTriangleOk_calls (hok : TriangleOkOk7 g lf) {xs : List Int} {p : PV} {h : PHeap} (N : Nat) (hN : 41 ≤ N) (side : Int) (ht : TabOk g h) (hp : IntSl .i64 h p xs) (hf : 1048576 < lf) :
    ∃ h', CL g lf N fn_laws_FnExactTriangleOk [.int .i64 side, p] h = some (.bool true, h') := by
  obtain ⟨n, rfl⟩ : ∃ n, N = n + 1 := ⟨N - 1, by omega⟩
  apply W.yes
  rw [laws_FnExactTriangleOk.call_eq]
  unfold laws_FnExactTriangleOk.main
  simp only [env_C, env_bin, env_un, env_len]
  have hlen := hp.len'
  by_cases hbig : (1048576 : Int) < (xs.length : Int)
  · repeat (first | with_reducible refine wT ?_ | with_reducible refine wrB ?_ | with_reducible refine wbd (by assumption) ?_ | with_reducible refine wgtrT (by omega) ?_)
    exact W.ret rfl
  · obtain ⟨q1, h1, e1, o1, k1⟩ := toIntS_calls g lf n (by omega) hp (by omega) (by omega)
    have e2 := specTriangleOk_N g lf n (by omega) side o1.int (by omega) (by omega)
    have K2 : Keep h.length h h1 := k1
    obtain ⟨q3, h3, e3, o3, k3⟩ := toIntS_calls g lf n (by omega) (hp.keep K2) (by omega) (by omega)
    have K3 : Keep h.length h h3 := K2.trans (k3.mono K2.1)
    obtain ⟨h4, e4, k4⟩ := hok n (by omega) side (ht.keep K3) o3.int (by omega) (by omega)
    have K4 : Keep h.length h h4 := K3.trans (k4.mono K3.1)
    obtain ⟨q5, h5, e5, o5, k5⟩ := toIntS_calls g lf n (by omega) (hp.keep K4) (by omega) (by omega)
    have e6 := eqIntS_N g lf n (by omega) ((o3.keep k4).keep k5).int o5.int (by omega) (by omega)
    rw [decide_eq_true rfl] at e6
    repeat (first | with_reducible refine wF ?_ | with_reducible refine wnT ?_ | with_reducible refine wrB ?_ | with_reducible refine wbd (by assumption) ?_ | (with_reducible refine wneqBB ?_) | with_reducible refine wgtrF (by omega) ?_ | dsimp only)
    exact W.ret rfl

theorem exactLastCell_calls (hok : LastCellOk7 g lf) {xs : List Int} {p : PV} {h : PHeap} (N : Nat) (hN : 41 ≤ N) (side : Int) (ht : TabOk g h) (hp : IntSl .i64 h p xs) (hf : 1048576 < lf) :
    ∃ h', CL g lf N fn_laws_FnExactLastCell [.int .i64 side, p] h = some (.bool true, h') := by
  obtain ⟨n, rfl⟩ : ∃ n, N = n + 1 := ⟨N - 1, by omega⟩
  apply W.yes
  rw [laws_FnExactLastCell.call_eq]
  unfold laws_FnExactLastCell.main
  simp only [env_C, env_bin, env_un, env_len]
  have hlen := hp.len'
  by_cases hbig : (1048576 : Int) < (xs.length : Int)
  · repeat (first | with_reducible refine wT ?_ | with_reducible refine wrB ?_ | with_reducible refine wbd (by assumption) ?_ | with_reducible refine wgtrT (by omega) ?_)
    exact W.ret rfl
  · obtain ⟨q1, h1, e1, o1, k1⟩ := toIntS_calls g lf n (by omega) hp (by omega) (by omega)
    obtain ⟨h2, e2, k2⟩ := specLastCell_calls g lf n (by omega) side o1.int (by omega) (by omega) (by omega)
    have K2 : Keep h.length h h2 := k1.trans (k2.mono k1.1)
    obtain ⟨q3, h3, e3, o3, k3⟩ := toIntS_calls g lf n (by omega) (hp.keep K2) (by omega) (by omega)
    have K3 : Keep h.length h h3 := K2.trans (k3.mono K2.1)
    obtain ⟨h4, e4, k4⟩ := hok n (by omega) side (ht.keep K3) o3.int (by omega) (by omega)
    have K4 : Keep h.length h h4 := K3.trans (k4.mono K3.1)
    obtain ⟨q5, h5, e5, o5, k5⟩ := toIntS_calls g lf n (by omega) (hp.keep K4) (by omega) (by omega)
    have e6 := eqIntS_N g lf n (by omega) ((o3.keep k4).keep k5).int o5.int (by omega) (by omega)
    rw [decide_eq_true rfl] at e6
    repeat (first | with_reducible refine wF ?_ | with_reducible refine wnT ?_ | with_reducible refine wrB ?_ | with_reducible refine wbd (by assumption) ?_ | with_reducible refine wgtrF (by omega) ?_ | with_reducible refine wneqF (by omega) ?_ | dsimp only)
    exact W.ret rfl

theorem exactShrunk_calls (hok : ShrunkOk7 g lf) {xs : List Int} {p : PV} {h : PHeap} (N : Nat) (hN : 41 ≤ N) (side : Int) (ht : TabOk g h) (hp : IntSl .i64 h p xs) (hf : 1048576 < lf) :
    ∃ h', CL g lf N fn_laws_FnExactShrunk [.int .i64 side, p] h = some (.bool true, h') := by
  obtain ⟨n, rfl⟩ : ∃ n, N = n + 1 := ⟨N - 1, by omega⟩
  apply W.yes
  rw [laws_FnExactShrunk.call_eq]
  unfold laws_FnExactShrunk.main
  simp only [env_C, env_pick, env_bin, env_un, env_len]
  have hlen := hp.len'
  by_cases hbig : (1048576 : Int) < (xs.length : Int)
  · repeat (first | with_reducible refine wT ?_ | with_reducible refine wrB ?_ | with_reducible refine wbd (by assumption) ?_ | with_reducible refine wgtrT (by omega) ?_)
    exact W.ret rfl
  · have hL := shrunkL_length side xs
    obtain ⟨q1, h1, w, h2, q3, h3, g0, h4, y, h5, h6, h7, q8, h8, g1, h9, e1, e2, e3, e4, e5, e6, e7, e8, e9, e10, e11, e12, e13, e14, e15⟩ := exact_chain2 g lf n (by omega)
      (fun q h => CL g lf n fn_spec_Shrunk [.int .i64 side, q] h) (fun q h => CL g lf n fn_impl_Shrunk [.int .i64 side, q] h)
      (fun q hh _ hq => specShrunk_calls g lf n (by omega) side hq (by omega) (by omega) (by omega)) (fun q hh hk hq => hok n (by omega) side (ht.keep hk) hq (by omega) (by omega)) hp (by omega) (by omega) hf
    repeat (first | with_reducible refine wF ?_ | with_reducible refine wg1 rfl ?_ | with_reducible refine wpF ?_ | with_reducible refine wnT ?_ | with_reducible refine wpv ?_ | with_reducible refine wsm ?_ | with_reducible refine wrB ?_ | with_reducible refine wbd (by assumption) ?_ | with_reducible refine wlssF (by omega) ?_ | with_reducible refine wgtrF (by omega) ?_ | with_reducible refine wneqF (by omega) ?_ | dsimp only)
    exact W.ret rfl

theorem exactTurnedTriangle_calls (hok : TurnedTriangleOk7 g lf) {xs : List Int} {p : PV} {h : PHeap} (N : Nat) (hN : 41 ≤ N) (side : Int) (ht : TabOk g h) (hp : IntSl .i64 h p xs) (hf : 1048576 < lf) :
    ∃ h', CL g lf N fn_laws_FnExactTurnedTriangle [.int .i64 side, p] h = some (.bool true, h') := by
  obtain ⟨n, rfl⟩ : ∃ n, N = n + 1 := ⟨N - 1, by omega⟩
  apply W.yes
  rw [laws_FnExactTurnedTriangle.call_eq]
  unfold laws_FnExactTurnedTriangle.main
  simp only [env_C, env_pick, env_bin, env_un, env_len]
  have hlen := hp.len'
  by_cases hbig : (1048576 : Int) < (xs.length : Int)
  · repeat (first | with_reducible refine wT ?_ | with_reducible refine wrB ?_ | with_reducible refine wbd (by assumption) ?_ | with_reducible refine wgtrT (by omega) ?_)
    exact W.ret rfl
  · have hL := turnedL_length side xs
    obtain ⟨q1, h1, w, h2, q3, h3, g0, h4, y, h5, h6, h7, q8, h8, g1, h9, e1, e2, e3, e4, e5, e6, e7, e8, e9, e10, e11, e12, e13, e14, e15⟩ := exact_chain2 g lf n (by omega)
      (fun q h => CL g lf n fn_spec_TurnedTriangle [.int .i64 side, q] h) (fun q h => CL g lf n fn_impl_TurnedTriangle [.int .i64 side, q] h)
      (fun q hh _ hq => specTurned_calls g lf n (by omega) side hq (by omega) (by omega) (by omega)) (fun q hh hk hq => hok n (by omega) side (ht.keep hk) hq (by omega) (by omega)) hp (by omega) (by omega) hf
    repeat (first | with_reducible refine wF ?_ | with_reducible refine wg1 rfl ?_ | with_reducible refine wpF ?_ | with_reducible refine wnT ?_ | with_reducible refine wpv ?_ | with_reducible refine wsm ?_ | with_reducible refine wrB ?_ | with_reducible refine wbd (by assumption) ?_ | with_reducible refine wlssF (by omega) ?_ | with_reducible refine wgtrF (by omega) ?_ | with_reducible refine wneqF (by omega) ?_ | dsimp only)
    exact W.ret rfl

end Go.Proofs.Ytlefknibddkjpaa

/- The laws of chapter 7 over what the program's functions are asked to compute: fillings that are turned, shrunk and joined. -/
set_option maxRecDepth 20000
namespace Go.Proofs.Ytlefknibddkjpaa
open Go Go.Ip G

section
variable {Q : PV → PHeap → Prop} {h : PHeap}
/-- A list of one number. -/
theorem wlit1 {F : PV × PHeap → Res} {x : Int} (hf : ∀ p h', OwnSl h.length h' p [x] → Keep h.length h h' → W (F (p, h')) Q) : W ((buildSliceP Try.prog 23 1 [(0, .int .i64 x)] h).bind F) Q := by
  have hb : buildSliceP Try.prog 23 1 [(0, .int .i64 x)] h = some (.sl h.length 0 1, h ++ [.own 1 [.int .i64 x]]) := by
    simp [buildSliceP, tyElem, tySize, tyZero, repeatCells, fillP, PV.cells, setCells]
  exact wbd hb (hf _ _ (.inr ⟨h.length, Nat.le_refl _, rfl, by simp⟩) (Keep.append _ _ _ (Nat.le_refl _)))
end

theorem take_map {xs : List Int} {f : Int → Int} {i : Nat} (hi : i < xs.length) : (xs.take (i + 1)).map f = (xs.take i).map f ++ [f xs[i]] := by
  rw [List.take_add_one, List.getElem?_eq_getElem hi, List.map_append]; rfl
theorem tri_map (side : Int) (xs : List Int) : triB side (xs.map fun x => 3 - x) = triB side xs := by
  unfold triB
  rw [List.all_map, List.length_map]
  have : ((fun x : Int => decide (1 ≤ x ∧ x ≤ 2)) ∘ fun x : Int => 3 - x) = fun x => decide (1 ≤ x ∧ x ≤ 2) := by
    funext x
    simp only [Function.comp]
    rw [decide_eq_decide]; omega
  rw [this]
section
variable {side : Int} {xs : List Int} {s A : Nat} (h : Tri side xs s A)
include h
theorem tri_len : xs.length = cellsT s ∧ 0 < xs.length ∧ xs.length ≤ 10 := by
  obtain ⟨_, h1, h2, _, _, h5, _⟩ := h
  rw [h5]
  have : s = 1 ∨ s = 2 ∨ s = 3 ∨ s = 4 := by omega
  rcases this with rfl | rfl | rfl | rfl <;> decide
end
theorem turned_nil {side : Int} {xs : List Int} (h : triB side xs = false) : turnedL side xs = [] := by unfold turnedL; rw [h]; rfl
variable (g : Nat → PV) (lf n : Nat)

theorem fnTriangleOk_calls (hO : TriangleOkOk7 g lf) {p : PV} {ys : List Int} {h : PHeap} (N : Nat) (hN : 45 ≤ N) (ha : Arg h p ys) (hlf : 3000 < lf) (ht : TabOk g h) :
    ∃ h', CL g lf N fn_laws_FnTriangleOk [p] h = some (.bool true, h') := by
  obtain ⟨n, rfl⟩ : ∃ n, N = n + 1 := ⟨N - 1, by omega⟩
  apply W.yes
  rw [laws_FnTriangleOk.call_eq]
  unfold laws_FnTriangleOk.main
  simp only [env_C, env_lf, env_buildSlice, env_bin, env_extract, env_len]
  have hlenp : lenP Try.prog 22 p = some (.int .i64 ys.length) := (ha.1 h (Keep.refl _ _)).len tyB
  by_cases hbig : (1048576 : Int) < (ys.length : Int)
  · repeat (first | with_reducible refine wT ?_ | with_reducible refine wrB ?_ | with_reducible refine wbd (by assumption) ?_ | with_reducible refine wgtrT (by omega) ?_)
    exact W.ret rfl
  obtain ⟨sd, q, xs, h1, e1, k1, hq0, hl, hbd, hs1, hs5⟩ := drawTriangleOk_W g lf n (by omega) ha (by omega)
  have htF := tabF ht k1
  have hb1 : h1.length ≤ h1.length := Nat.le_refl _
  have k0 : Keep h1.length h1 h1 := Keep.refl _ _
  have hal : ∀ h2, CL g lf n fn_laws_alive [] h2 = some (.bool true, h2) := fun h2 => alive_calls g lf n (by omega) h2
  have hq : Fix h1.length h1 q xs := hq0.fix
  have hTO : ∀ h2 (q' : PV) (zs : List Int) (sd' : Int), Keep h1.length h1 h2 → IntSl .i64 h2 q' zs → zs.length ≤ 11 → ∃ h', CL g lf n fn_impl_TriangleOk [.int .i64 sd', q'] h2 = some (.bool (triB sd' zs), h') ∧ Keep h2.length h2 h' := fun h2 q' zs sd' k2 i2 l2 => hO n (by omega) sd' (htF _ k2) i2 (by omega) (by omega)
  obtain ⟨h2, e2, k2⟩ := hTO h1 q xs sd k0 (hq _ k0) (by omega)
  have e3 := specTriangleOk_N g lf n (by omega) sd (hq _ k2) (by omega) (by omega)
  obtain ⟨ok, hok⟩ : ∃ ok, ok = triB sd xs := ⟨_, rfl⟩
  rw [← hok] at e2 e3
  repeat (first | with_reducible refine wF ?_ | with_reducible refine wx0 ?_ | with_reducible refine wx1 ?_ | with_reducible refine wbd (by assumption) ?_ | (with_reducible refine wneqBB ?_) | with_reducible refine wgtrF (by omega) ?_ | dsimp only)
  refine wempty fun q3 h3 o3 k3 => ?_
  have K3 := k2.trans (k3.mono k2.1)
  refine loopW (fun m st => ∃ (i : Nat) (q4 : PV) (zs : List Int) (h4 : PHeap), st = laws_FnTriangleOk.st0 (.int .i64 sd) q (.bool ok) q4 (.int .i64 (i : Int)) h4 ∧ i + m = xs.length ∧ zs = (xs.take i).map (fun x => 3 - x) ∧ OwnSl h2.length h4 q4 zs ∧ Keep h2.length h2 h4) ?_ lf xs.length _ (by omega) ⟨0, q3, [], h3, rfl, by omega, rfl, o3, k3⟩
  rintro n1 m st ⟨i, q4, zs, h4, rfl, him, hz, o4, k4⟩ next
  have K4 : Keep h1.length h1 h4 := k2.trans (k4.mono k2.1)
  have hi4 := hq _ K4
  have hlq := hi4.len'
  have hzl : zs.length = i := by rw [hz, List.length_map, List.length_take]; omega
  rw [laws_FnTriangleOk.body0_eq]
  unfold laws_FnTriangleOk.body0
  simp only [env_buildSlice, env_load, env_bin, env_indexAddr, env_len, env_append]
  cases m with
  | succ m =>
    have hi : i < xs.length := by omega
    have hx := hbd xs[i] (List.getElem_mem hi)
    obtain ⟨a, ea, la⟩ := hi4.at' hi
    have hw : -4611686018427387904 ≤ (3 : Int) - xs[i] ∧ (3 : Int) - xs[i] ≤ 4611686018427387904 := by omega
    repeat (first | with_reducible refine wT ?_ | with_reducible refine wbd (by assumption) ?_ | (with_reducible refine wsub hw ?_) | with_reducible refine wlssT (by omega) ?_)
    refine wap o4 k4.1 (by omega) fun p' h5 o5 k5 => ?_
    repeat (first | with_reducible refine wadd1 (by omega) ?_ | dsimp only)
    exact next _ _ (Nat.lt_succ_self m) ⟨i + 1, p', _, h5, rfl, by omega, by rw [take_map hi, ← hz], o5, k4.trans k5⟩
  | zero =>
    have hz' : zs = xs.map fun x => 3 - x := by rw [hz, List.take_of_length_le (by omega)]
    repeat (first | with_reducible refine wF ?_ | with_reducible refine wbd (by assumption) ?_ | with_reducible refine wlssF (by omega) ?_ | rw [kLoop_exit] | rw [laws_FnTriangleOk.after0_se0_3_4_5_6_7_28] | simp only [env_C, env_g, env_lf, env_pick, env_alloc, env_box, env_build, env_buildSlice, env_load, env_store, env_ptr, env_bin, env_un, env_conv, env_make, env_slice, env_fieldAddr, env_field, env_indexAddr, env_index, env_extract, env_len, env_append, env_max, env_min, env_makeMap, env_lookup, env_update])
    refine wlit1 fun pa ha oa ka => ?_
    have Ka := K4.trans (ka.mono K4.1)
    obtain ⟨hb, eb, kb⟩ := hTO ha pa [1] 1 Ka oa.int (by decide)
    rw [show triB 1 [1] = true from rfl] at eb
    have Kb := Ka.trans (kb.mono Ka.1)
    repeat (first | with_reducible refine wg1 rfl ?_ | with_reducible refine wbd (by assumption) ?_ | dsimp only)
    refine wlit1 fun pc hc oc kc => ?_
    have Kc := Kb.trans (kc.mono Kb.1)
    obtain ⟨hd, ed, kd⟩ := hTO hc pc [2] 1 Kc oc.int (by decide)
    rw [show triB 1 [2] = true from rfl] at ed
    have Kd := Kc.trans (kd.mono Kc.1)
    repeat (first | with_reducible refine wg1 rfl ?_ | with_reducible refine wpT ?_ | with_reducible refine wbd (by assumption) ?_ | dsimp only)
    refine wlit1 fun pe he oe ke => ?_
    have Ke := Kd.trans (ke.mono Kd.1)
    obtain ⟨hf, ef, kf⟩ := hTO he pe [0] 1 Ke oe.int (by decide)
    rw [show triB 1 [0] = false from rfl] at ef
    have Kf := Ke.trans (kf.mono Ke.1)
    have of := ((((((o4.keep ka).keep kb).keep kc).keep kd).keep ke).keep kf)
    obtain ⟨hg, eg, kg⟩ := hTO hf q4 zs sd Kf of.int (by omega)
    rw [hz', tri_map, ← hok] at eg
    repeat (first | with_reducible refine wg1 rfl ?_ | with_reducible refine wpT ?_ | with_reducible refine wnF ?_ | with_reducible refine wpv ?_ | with_reducible refine wsm ?_ | with_reducible refine wrB ?_ | with_reducible refine wbd (by assumption) ?_ | (with_reducible refine weqlBB ?_) | dsimp only)
    exact W.ret rfl

theorem fnTurnedTriangle_calls (hTu : TurnedTriangleOk7 g lf) (hO : TriangleOkOk7 g lf) (hSh : ShrunkOk7 g lf) {p : PV} {ys : List Int} {h : PHeap} (N : Nat) (hN : 45 ≤ N) (ha : Arg h p ys) (hlf : 3000 < lf) (ht : TabOk g h) :
    ∃ h', CL g lf N fn_laws_FnTurnedTriangle [p] h = some (.bool true, h') := by
  obtain ⟨n, rfl⟩ : ∃ n, N = n + 1 := ⟨N - 1, by omega⟩
  apply W.yes
  rw [laws_FnTurnedTriangle.call_eq]
  unfold laws_FnTurnedTriangle.main
  simp only [env_C, env_pick, env_bin, env_un, env_extract, env_len]
  have hlenp : lenP Try.prog 22 p = some (.int .i64 ys.length) := (ha.1 h (Keep.refl _ _)).len tyB
  by_cases hbig : (1048576 : Int) < (ys.length : Int)
  · repeat (first | with_reducible refine wT ?_ | with_reducible refine wrB ?_ | with_reducible refine wbd (by assumption) ?_ | with_reducible refine wgtrT (by omega) ?_)
    exact W.ret rfl
  obtain ⟨sd, q, xs, h1, e1, k1, hq0, hl, hbd, hs1, hs5⟩ := drawTurnedTriangle_W g lf n (by omega) ha (by omega)
  have htF := tabF ht k1
  have hb1 : h1.length ≤ h1.length := Nat.le_refl _
  have k0 : Keep h1.length h1 h1 := Keep.refl _ _
  have hal : ∀ h2, CL g lf n fn_laws_alive [] h2 = some (.bool true, h2) := fun h2 => alive_calls g lf n (by omega) h2
  have hq : Fix h1.length h1 q xs := hq0.fix
  have hTO : ∀ h2 (q' : PV) (zs : List Int) (sd' : Int), Keep h1.length h1 h2 → IntSl .i64 h2 q' zs → zs.length ≤ 11 → ∃ h', CL g lf n fn_impl_TriangleOk [.int .i64 sd', q'] h2 = some (.bool (triB sd' zs), h') ∧ Keep h2.length h2 h' := fun h2 q' zs sd' k2 i2 l2 => hO n (by omega) sd' (htF _ k2) i2 (by omega) (by omega)
  have hTU : ∀ h2 (q' : PV) (zs : List Int) (sd' : Int), Keep h1.length h1 h2 → IntSl .i64 h2 q' zs → zs.length ≤ 11 → ∃ q'' h', CL g lf n fn_impl_TurnedTriangle [.int .i64 sd', q'] h2 = some (q'', h') ∧ OwnSl h2.length h' q'' (turnedL sd' zs) ∧ Keep h2.length h2 h' := fun h2 q' zs sd' k2 i2 l2 => hTu n (by omega) sd' (htF _ k2) i2 (by omega) (by omega)
  have hSH : ∀ h2 (q' : PV) (zs : List Int) (sd' : Int), Keep h1.length h1 h2 → IntSl .i64 h2 q' zs → zs.length ≤ 11 → ∃ q'' h', CL g lf n fn_impl_Shrunk [.int .i64 sd', q'] h2 = some (q'', h') ∧ OwnSl h2.length h' q'' (shrunkL sd' zs) ∧ Keep h2.length h2 h' := fun h2 q' zs sd' k2 i2 l2 => hSh n (by omega) sd' (htF _ k2) i2 (by omega) (by omega)
  obtain ⟨q2, h2, e2, o2, k2⟩ := hTU h1 q xs sd k0 (hq _ k0) (by omega)
  obtain ⟨q3, h3, e3, o3, k3⟩ := specTurned_calls g lf n (by omega) sd (hq _ k2) (by omega) (by omega) (by omega)
  have K3 := k2.trans (k3.mono k2.1)
  have htl := turnedL_length sd xs
  have o2' := o2.keep k3
  have e4 := sameInts_N g lf n (by omega) o2'.int o3.int (by omega) (by omega)
  rw [decide_eq_true rfl] at e4
  have hlen := o2'.int.len'
  cases hb : triB sd xs with
  | false =>
    rw [turned_nil hb] at hlen
    obtain ⟨h5, e5, k5⟩ := hTO h3 q xs sd K3 (hq _ K3) (by omega)
    rw [hb] at e5
    repeat (first | with_reducible refine wT ?_ | with_reducible refine wF ?_ | with_reducible refine wg1 rfl ?_ | with_reducible refine wpT ?_ | with_reducible refine wnT ?_ | with_reducible refine wnF ?_ | with_reducible refine wrB ?_ | with_reducible refine wx0 ?_ | with_reducible refine wx1 ?_ | with_reducible refine wbd (by assumption) ?_ | (with_reducible refine wbd (hal _) ?_) | (with_reducible refine weqlT rfl ?_) | with_reducible refine wgtrF (by omega) ?_ | dsimp only)
    exact W.ret rfl
  | true =>
    obtain ⟨S, A, hT⟩ := tri_of hb
    obtain ⟨t1, t2, t3, t4⟩ := turn_lt hT
    obtain ⟨l1, l2, l3⟩ := tri_len hT
    have hsd := hT.1
    have s1 := hT.2.1
    have s4 := hT.2.2.1
    have hA := hT.2.2.2.1
    have hx := hT.2.2.2.2.1
    have hTe := tri_turned hT
    have hT1 : Tri sd (turnedL sd xs) S (turnT S A) := by rw [hTe, hsd]; exact Tri.fill s1 s4 t1
    obtain ⟨m1, m2, m3⟩ := tri_len hT1
    obtain ⟨u1, _, _, _⟩ := turn_lt hT1
    have hT2 : Tri sd (turnedL sd (turnedL sd xs)) S (turnT S (turnT S A)) := by rw [tri_turned hT1, hsd]; exact Tri.fill s1 s4 u1
    obtain ⟨v1, v2, v3⟩ := tri_len hT2
    have hback : turnedL sd (turnedL sd (turnedL sd xs)) = xs := by rw [tri_turned hT2, t2, ← hx]
    obtain ⟨q5, h5, e5, o5, k5⟩ := hTU h3 q2 _ sd K3 o2'.int (by omega)
    have K5 := K3.trans (k5.mono K3.1)
    obtain ⟨q6, h6, e6, o6, k6⟩ := hTU h5 q5 _ sd K5 o5.int (by omega)
    have K6 := K5.trans (k6.mono K5.1)
    rw [hback] at o6
    have o26 := (o2'.keep k5).keep k6
    obtain ⟨h7, e7, k7⟩ := hTO h6 q2 _ sd K6 o26.int (by omega)
    rw [hT1.ok] at e7
    have K7 := K6.trans (k7.mono K6.1)
    have e8 := sameInts_N g lf n (by omega) (o6.keep k7).int (hq _ K7) (by omega) (by omega)
    rw [decide_eq_true rfl] at e8
    have hlen0 : ¬ ((turnedL sd xs).length : Int) = 0 := by omega
    by_cases hS1 : S = 1
    · have hs1' : sd = 1 := by omega
      repeat (first | with_reducible refine wF ?_ | with_reducible refine wg1 rfl ?_ | with_reducible refine wg0 rfl ?_ | with_reducible refine wpT ?_ | with_reducible refine wnT ?_ | with_reducible refine wpv ?_ | with_reducible refine wsm ?_ | with_reducible refine wrB ?_ | with_reducible refine wx0 ?_ | with_reducible refine wx1 ?_ | with_reducible refine wbd (by assumption) ?_ | with_reducible refine wgtrF (by omega) ?_ | with_reducible refine weqlT (by omega) ?_ | with_reducible refine weqlF (by omega) ?_ | dsimp only)
      exact W.ret rfl
    · have h2S : 2 ≤ S := by omega
      have hs1' : ¬ sd = 1 := by omega
      obtain ⟨r1, r2⟩ := shr_lt hT h2S
      have o27 := o26.keep k7
      obtain ⟨q9, h9, e9, o9, k9⟩ := hSH h7 q2 _ sd K7 o27.int (by omega)
      have K9 := K7.trans (k9.mono K7.1)
      obtain ⟨qA, hA', eA, oA, kA⟩ := hSH h9 q xs sd K9 (hq _ K9) (by omega)
      have KA := K9.trans (kA.mono K9.1)
      have hsl := shrunkL_length sd xs
      have hsl2 := shrunkL_length sd (turnedL sd xs)
      obtain ⟨qB, hB, eB, oB, kB⟩ := hTU hA' qA _ (sd - 1) KA oA.int (by omega)
      have e9c := sameInts_N g lf n (by omega) ((o9.keep kA).keep kB).int oB.int (by omega) (by omega)
      have hTs : Tri (sd - 1) (shrunkL sd xs) (S - 1) (shrT S A) := by
        rw [tri_shrunk hT h2S, show sd - 1 = ((S - 1 : Nat) : Int) by omega]
        exact Tri.fill (by omega) (by omega) r1
      rw [decide_eq_true (by rw [tri_shrunk hT1 h2S, turn_shr hT h2S, tri_turned hTs])] at e9c
      have hw : -4611686018427387904 ≤ sd - 1 ∧ sd - 1 ≤ 4611686018427387904 := by omega
      repeat (first | with_reducible refine wF ?_ | with_reducible refine wg1 rfl ?_ | with_reducible refine wpT ?_ | with_reducible refine wpF ?_ | with_reducible refine wnT ?_ | with_reducible refine wpv ?_ | with_reducible refine wsm ?_ | with_reducible refine wrB ?_ | with_reducible refine wx0 ?_ | with_reducible refine wx1 ?_ | with_reducible refine wbd (by assumption) ?_ | (with_reducible refine wsub hw ?_) | with_reducible refine wgtrF (by omega) ?_ | with_reducible refine weqlF (by omega) ?_ | dsimp only)
      exact W.ret rfl

end Go.Proofs.Ytlefknibddkjpaa

/- The laws of chapter 7, continued: triangles that shrink, last cells, a stone more, neighbours and how many are won. -/
set_option maxRecDepth 20000
namespace Go.Proofs.Ytlefknibddkjpaa
open Go Go.Ip G

section
variable {Q : PV → PHeap → Prop} {x y : Nat} {t : Nat} {P : Program} {f : PV → Res}
end

variable (g : Nat → PV) (lf n : Nat)

end Go.Proofs.Ytlefknibddkjpaa

/- The program's chapter 2: Joins, GapOf, GroupOf, Filled and GapCells compute what the model's do. -/
set_option maxRecDepth 20000
namespace Go.Proofs.Ytlefknibddkjpaa
open Go Go.Ip G

variable (g : Nat → PV) (lf n : Nat)

end Go.Proofs.Ytlefknibddkjpaa

/- The program's chapter 7: cells and places of triangles; full, shrunk and turned triangles, the last cell. -/
set_option maxRecDepth 20000
namespace Go.Proofs.Ytlefknibddkjpaa
open Go Go.Ip G

theorem placeT_all : ((List.range 10).all fun k => (List.range 4).all fun r => !(decide (cellsT r ≤ k) && decide (k < cellsT (r + 1))) || (rowT k == r && plT k == k - cellsT r)) = true := by kernel_rfl
theorem place_at {k r : Nat} (hk : k < 10) (hr : r < 4) (h1 : cellsT r ≤ k) (h2 : k < cellsT (r + 1)) : rowT k = r ∧ plT k = k - cellsT r := by
  have h := List.all_eq_true.1 (List.all_eq_true.1 placeT_all k (List.mem_range.2 hk)) r (List.mem_range.2 hr)
  rw [decide_eq_true h1, decide_eq_true h2] at h
  simpa using h
theorem wsubK {Q : PV → PHeap → Prop} {x y : Nat} {P : Program} {t : TypeId} {f : PV → Res} (h : y ≤ x) (h2 : x < 4611686018427387904) (hf : W (f (.int .i64 ((x - y : Nat) : Int))) Q) : W ((binP P .sub t (.int .i64 (x : Int)) (.int .i64 (y : Int))).bind f) Q :=
  wbd (by rw [bin_sub, wr (by omega), show (x : Int) - (y : Int) = ((x - y : Nat) : Int) by omega]) hf
theorem set_rep {Z : List Int} {m k : Nat} {x : Int} (h : Z.length = k) : (Z ++ List.replicate (m + 1) 0).set k x = (Z ++ [x]) ++ List.replicate m 0 := by
  subst h; rw [List.set_append_right _ _ (Nat.le_refl _), Nat.sub_self, List.replicate_succ, List.set_cons_zero, List.append_assoc]; rfl
theorem most_two {a b c : Bool} : (if (if b = true then 1 else 2 : Int) = (if c = true then 1 else 2) then (if b = true then 1 else 2) else (if a = true then 1 else 2 : Int)) = if twoOf a b c = true then 1 else 2 := by
  cases a <;> cases b <;> cases c <;> rfl

variable (g : Nat → PV) (lf n : Nat)

theorem triCell_N {r p : Nat} (hr : r ≤ 100) (hp : p ≤ 100) (N : Nat) (hN : 1 ≤ N) (h : PHeap) : CL g lf N fn_impl_triangleCell [.int .i64 (r : Int), .int .i64 (p : Int)] h = some (.int .i64 ((cellsT r + p : Nat) : Int), h) := by
  obtain ⟨n, rfl⟩ : ∃ n, N = n + 1 := ⟨N - 1, by omega⟩
  have hm : r * (r + 1) < 1000000 := Nat.lt_of_le_of_lt (Nat.mul_le_mul hr (by omega : r + 1 ≤ 101)) (by decide)
  have hm2 : r * (r + 1) < 4611686018427387904 := by omega
  have : W (CL g lf (n + 1) fn_impl_triangleCell [.int .i64 (r : Int), .int .i64 (p : Int)] h) fun v h' => v = .int .i64 ((cellsT r + p : Nat) : Int) ∧ h' = h := by
    rw [impl_triangleCell.call_eq]
    unfold impl_triangleCell.main
    simp only [env_bin]
    repeat (first | with_reducible refine wrI ?_ | (with_reducible refine wmulN hm2 ?_) | (with_reducible refine wquo2 (by omega) ?_) | with_reducible refine wadd1 (by omega) ?_ | with_reducible refine waddN (by omega) ?_)
    exact W.ret ⟨rfl, rfl⟩
  obtain ⟨_, h', e, rfl, rfl⟩ := this
  exact e

theorem triCell0_N {r : Nat} (hr : r ≤ 100) (N : Nat) (hN : 1 ≤ N) (h : PHeap) : CL g lf N fn_impl_triangleCell [.int .i64 (r : Int), .int .i64 0] h = some (.int .i64 (cellsT r : Int), h) := triCell_N g lf hr (Nat.zero_le 100) N hN h

theorem triSize_N {s : Nat} (hs : s ≤ 100) (N : Nat) (hN : 2 ≤ N) (h : PHeap) : CL g lf N fn_impl_triangleSize [.int .i64 (s : Int)] h = some (.int .i64 (cellsT s : Int), h) := by
  obtain ⟨n, rfl⟩ : ∃ n, N = n + 1 := ⟨N - 1, by omega⟩
  have e1 := triCell0_N g lf hs n (by omega) h
  have : W (CL g lf (n + 1) fn_impl_triangleSize [.int .i64 (s : Int)] h) fun v h' => v = .int .i64 (cellsT s : Int) ∧ h' = h := by
    rw [impl_triangleSize.call_eq]
    unfold impl_triangleSize.main
    simp only [env_C]
    repeat (first | with_reducible refine wrI ?_ | with_reducible refine wbd (by assumption) ?_ | dsimp only)
    exact W.ret ⟨rfl, rfl⟩
  obtain ⟨_, h', e, rfl, rfl⟩ := this
  exact e

theorem triPlace_N {k : Nat} (hk : k < 10) (N : Nat) (hN : 3 ≤ N) (hlf : 20 < lf) (h : PHeap) : CL g lf N fn_impl_trianglePlace [.int .i64 (k : Int)] h = some (.tup [.int .i64 (rowT k : Int), .int .i64 (plT k : Int)], h) := by
  obtain ⟨n, rfl⟩ : ∃ n, N = n + 1 := ⟨N - 1, by omega⟩
  have : W (CL g lf (n + 1) fn_impl_trianglePlace [.int .i64 (k : Int)] h) fun v h' => v = .tup [.int .i64 (rowT k : Int), .int .i64 (plT k : Int)] ∧ h' = h := by
    rw [impl_trianglePlace.call_eq]
    unfold impl_trianglePlace.main
    simp only [env_lf]
    refine loopW (fun m st => ∃ r : Nat, st = impl_trianglePlace.st0 (.int .i64 (k : Int)) (.int .i64 (r : Int)) h ∧ r + m = 4 ∧ 1 ≤ m ∧ cellsT r ≤ k) ?_ lf 4 _ (by omega) ⟨0, rfl, by omega, by omega, Nat.zero_le _⟩
    rintro n1 m st ⟨r, rfl, hrm, hm1, hc⟩ next
    have eS := triSize_N g lf (s := r + 1) (by omega) n (by omega) h
    have eS0 := triSize_N g lf (s := r) (by omega) n (by omega) h
    have h10 := cellsT_le (s := r + 1) (by omega)
    have hr4 : r + 1 = 4 → cellsT (r + 1) = 10 := fun e => by rw [e]; rfl
    obtain ⟨c1, hc1⟩ : ∃ c1, c1 = cellsT (r + 1) := ⟨_, rfl⟩
    have hpl := fun h2 => place_at (k := k) (r := r) hk (by omega) hc h2
    rw [← hc1] at eS h10 hr4 hpl
    obtain ⟨c0, hc0⟩ : ∃ c0, c0 = cellsT r := ⟨_, rfl⟩
    rw [← hc0] at eS0 hc hpl
    rw [impl_trianglePlace.body0_eq]
    unfold impl_trianglePlace.body0
    simp only [env_C, env_bin]
    by_cases hle : c1 ≤ k
    · repeat (first | with_reducible refine wT ?_ | with_reducible refine wbd (by assumption) ?_ | with_reducible refine wadd1 (by omega) ?_ | with_reducible refine wleqT (by omega) ?_ | dsimp only)
      refine next (m - 1) _ (by omega) ⟨r + 1, rfl, by omega, ?_, by rw [← hc1]; exact hle⟩
      have := fun e => hr4 e
      omega
    · obtain ⟨e1, e2⟩ := hpl (by omega)
      repeat (first | with_reducible refine wF ?_ | with_reducible refine wrI ?_ | with_reducible refine wbd (by assumption) ?_ | (with_reducible refine wsubK (by omega) (by omega) ?_) | with_reducible refine wadd1 (by omega) ?_ | with_reducible refine wleqF (by omega) ?_ | rw [kLoop_exit] | rw [impl_trianglePlace.after0_se0_0_4_9] | dsimp only | simp only [env_C, env_g, env_lf, env_pick, env_alloc, env_box, env_build, env_buildSlice, env_load, env_store, env_ptr, env_bin, env_un, env_conv, env_make, env_slice, env_fieldAddr, env_field, env_indexAddr, env_index, env_extract, env_len, env_append, env_max, env_min, env_makeMap, env_lookup, env_update])
      rw [e1, e2]
      exact W.ret ⟨rfl, rfl⟩
  obtain ⟨_, h', e, rfl, rfl⟩ := this
  exact e

theorem triSide_N (N : Nat) (hN : 1 ≤ N) (h : PHeap) (side : Int) : CL g lf N fn_impl_triangleSideOk [.int .i64 side] h = some (.bool (decide (1 ≤ side ∧ side ≤ 4)), h) := by
  obtain ⟨n, rfl⟩ : ∃ n, N = n + 1 := ⟨N - 1, by omega⟩
  have : W (CL g lf (n + 1) fn_impl_triangleSideOk [.int .i64 side] h) fun v h' => v = .bool (decide (1 ≤ side ∧ side ≤ 4)) ∧ h' = h := by
    rw [impl_triangleSideOk.call_eq]
    unfold impl_triangleSideOk.main
    simp only [env_pick, env_bin]
    by_cases h1 : 1 ≤ side
    · by_cases h2 : side ≤ 4
      · rw [decide_eq_true (⟨h1, h2⟩ : 1 ≤ side ∧ side ≤ 4)]
        repeat (first | with_reducible refine wg1 rfl ?_ | with_reducible refine wpT ?_ | with_reducible refine wpv ?_ | with_reducible refine wsm ?_ | with_reducible refine wrB ?_ | with_reducible refine wleqT (by omega) ?_ | with_reducible refine wgeqT (by omega) ?_ | dsimp only)
        exact W.ret ⟨rfl, rfl⟩
      · rw [decide_eq_false (show ¬ (1 ≤ side ∧ side ≤ 4) by omega)]
        repeat (first | with_reducible refine wg1 rfl ?_ | with_reducible refine wpT ?_ | with_reducible refine wpv ?_ | with_reducible refine wsm ?_ | with_reducible refine wrB ?_ | with_reducible refine wleqF (by omega) ?_ | with_reducible refine wgeqT (by omega) ?_ | dsimp only)
        exact W.ret ⟨rfl, rfl⟩
    · rw [decide_eq_false (show ¬ (1 ≤ side ∧ side ≤ 4) by omega)]
      repeat (first | with_reducible refine wg0 rfl ?_ | with_reducible refine wpF ?_ | with_reducible refine wsm ?_ | with_reducible refine wrB ?_ | with_reducible refine wgeqF (by omega) ?_ | dsimp only)
      exact W.ret ⟨rfl, rfl⟩
  obtain ⟨_, h', e, rfl, rfl⟩ := this
  exact e

theorem triangleOk_N {xs : List Int} {p : PV} {h : PHeap} (N : Nat) (hN : 4 ≤ N) (side : Int) (hp : IntSl .i64 h p xs) (hl : xs.length ≤ 2 ^ 35) (hf : xs.length < lf) :
    CL g lf N fn_impl_TriangleOk [.int .i64 side, p] h = some (.bool (triB side xs), h) := by
  obtain ⟨n, rfl⟩ : ∃ n, N = n + 1 := ⟨N - 1, by omega⟩
  have : W (CL g lf (n + 1) fn_impl_TriangleOk [.int .i64 side, p] h) fun v h' => v = .bool (triB side xs) ∧ h' = h := by
    have e1 := triSide_N g lf n (by omega) h side
    have hlen := hp.len'
    rw [impl_TriangleOk.call_eq]
    unfold impl_TriangleOk.main
    simp only [env_C, env_lf, env_pick, env_bin, env_un, env_len]
    by_cases hs : 1 ≤ side ∧ side ≤ 4
    case neg =>
      rw [decide_eq_false hs] at e1
      have hno : triB side xs = false := by unfold triB; rw [decide_eq_false hs]; simp
      rw [hno]
      repeat (first | with_reducible refine wT ?_ | with_reducible refine wg0 rfl ?_ | with_reducible refine wpT ?_ | with_reducible refine wnF ?_ | with_reducible refine wsm ?_ | with_reducible refine wrB ?_ | with_reducible refine wbd (by assumption) ?_ | dsimp only)
      exact W.ret ⟨rfl, rfl⟩
    rw [decide_eq_true hs] at e1
    obtain ⟨s, rfl⟩ := Int.eq_ofNat_of_zero_le (show 0 ≤ side by omega)
    have eS := triSize_N g lf (s := s) (by omega) n (by omega) h
    have htri : triB (s : Int) xs = ((xs.all fun x => decide (1 ≤ x ∧ x ≤ 2)) && decide (xs.length = cellsT s)) := by unfold triB; rw [decide_eq_true hs, Int.toNat_natCast]; rfl
    obtain ⟨T, hT⟩ : ∃ T, T = cellsT s := ⟨_, rfl⟩
    rw [← hT] at eS htri
    by_cases hc : xs.length = T
    case neg =>
      have hc' : ¬ (xs.length : Int) = (T : Int) := by omega
      rw [htri, decide_eq_false hc, Bool.and_false]
      repeat (first | with_reducible refine wT ?_ | with_reducible refine wg1 rfl ?_ | with_reducible refine wpF ?_ | with_reducible refine wnT ?_ | with_reducible refine wpv ?_ | with_reducible refine wsm ?_ | with_reducible refine wrB ?_ | with_reducible refine wbd (by assumption) ?_ | with_reducible refine wneqT (by omega) ?_ | dsimp only)
      exact W.ret ⟨rfl, rfl⟩
    have hc' : (xs.length : Int) = (T : Int) := by omega
    rw [htri, decide_eq_true hc, Bool.and_true]
    repeat (first | with_reducible refine wF ?_ | with_reducible refine wg1 rfl ?_ | with_reducible refine wpF ?_ | with_reducible refine wnT ?_ | with_reducible refine wpv ?_ | with_reducible refine wsm ?_ | with_reducible refine wbd (by assumption) ?_ | with_reducible refine wneqF (by omega) ?_ | dsimp only)
    refine loopW (fun m s => ∃ (k : Nat), s = impl_TriangleOk.st0 p (.int .i64 (xs.length : Int)) (.int .i64 (k : Int)) h ∧ k + m = xs.length ∧ ∀ i (hi : i < xs.length), i < k → 1 ≤ xs[i] ∧ xs[i] ≤ 2) ?_ lf xs.length _ hf ⟨0, rfl, by omega, fun i _ h => by omega⟩
    rintro n1 m s ⟨k, rfl, hkm, hall⟩ next
    rw [impl_TriangleOk.body0_eq]
    unfold impl_TriangleOk.body0
    simp only [env_C, env_load, env_bin, env_un, env_indexAddr]
    cases m with
    | zero =>
      have hxs : (xs.all fun x => decide (1 ≤ x ∧ x ≤ 2)) = true := by
        rw [List.all_eq_true]
        intro x hx
        obtain ⟨i, hi, rfl⟩ := List.mem_iff_getElem.1 hx
        exact decide_eq_true (hall i hi (by omega))
      rw [hxs]
      repeat (first | with_reducible refine wF ?_ | with_reducible refine wrB ?_ | with_reducible refine wlssF (by omega) ?_ | rw [kLoop_exit] | rw [impl_TriangleOk.after0_se0_17_18_19_20])
      exact W.ret ⟨rfl, rfl⟩
    | succ m =>
      have hk : k < xs.length := by omega
      obtain ⟨a, ea, la⟩ := hp.at' hk
      have e2 := playerOk_W g lf n (by omega) h xs[k]
      by_cases hx : 1 ≤ xs[k] ∧ xs[k] ≤ 2
      · have hpb : playerB xs[k] = true := by unfold playerB; exact decide_eq_true (by omega)
        rw [hpb] at e2
        repeat (first | with_reducible refine wT ?_ | with_reducible refine wF ?_ | with_reducible refine wnT ?_ | with_reducible refine wbd (by assumption) ?_ | with_reducible refine wadd1 (by omega) ?_ | with_reducible refine wlssT (by omega) ?_ | dsimp only)
        refine next _ _ (Nat.lt_succ_self m) ⟨k + 1, rfl, by omega, fun i hi hlt => ?_⟩
        by_cases e : i = k
        · subst e; exact hx
        · exact hall i hi (by omega)
      · have hpb : playerB xs[k] = false := by unfold playerB; exact decide_eq_false (by omega)
        rw [hpb] at e2
        have hno : (xs.all fun x => decide (1 ≤ x ∧ x ≤ 2)) = false := by
          rw [List.all_eq_false]
          exact ⟨xs[k], List.getElem_mem hk, by rw [decide_eq_false hx]; decide⟩
        rw [hno]
        repeat (first | with_reducible refine wT ?_ | with_reducible refine wnF ?_ | with_reducible refine wrB ?_ | with_reducible refine wbd (by assumption) ?_ | with_reducible refine wlssT (by omega) ?_ | rw [kLoop_ret] | rw [impl_TriangleOk.K0_ret] | rw [impl_TriangleOk.top_sr_4] | dsimp only)
        exact W.ret ⟨rfl, rfl⟩
  obtain ⟨_, h', e, rfl, rfl⟩ := this
  exact e

theorem mostOf_N (N : Nat) (hN : 1 ≤ N) (h : PHeap) (x y z : Int) : CL g lf N fn_impl_mostOf [.int .i64 x, .int .i64 y, .int .i64 z] h = some (.int .i64 (if y = z then y else x), h) := by
  obtain ⟨n, rfl⟩ : ∃ n, N = n + 1 := ⟨N - 1, by omega⟩
  have : W (CL g lf (n + 1) fn_impl_mostOf [.int .i64 x, .int .i64 y, .int .i64 z] h) fun v h' => v = .int .i64 (if y = z then y else x) ∧ h' = h := by
    rw [impl_mostOf.call_eq]
    unfold impl_mostOf.main
    simp only [env_bin]
    by_cases e : y = z
    · rw [if_pos e]
      repeat (first | with_reducible refine wT ?_ | with_reducible refine wrI ?_ | with_reducible refine weqlT (by omega) ?_)
      exact W.ret ⟨rfl, rfl⟩
    · rw [if_neg e]
      repeat (first | with_reducible refine wF ?_ | with_reducible refine wrI ?_ | with_reducible refine weqlF (by omega) ?_)
      exact W.ret ⟨rfl, rfl⟩
  obtain ⟨_, h', e, rfl, rfl⟩ := this
  exact e

theorem shrunk_W {xs : List Int} {p : PV} {h : PHeap} (N : Nat) (hN : 6 ≤ N) (side : Int) (hp : IntSl .i64 h p xs) (hl : xs.length ≤ 2 ^ 35) (hf : xs.length < lf) (hlf : 20 < lf) :
    ∃ q h', CL g lf N fn_impl_Shrunk [.int .i64 side, p] h = some (q, h') ∧ OwnSl h.length h' q (shrunkL side xs) ∧ Keep h.length h h' := by
  obtain ⟨n, rfl⟩ : ∃ n, N = n + 1 := ⟨N - 1, by omega⟩
  suffices this : W (CL g lf (n + 1) fn_impl_Shrunk [.int .i64 side, p] h) fun q h' => OwnSl h.length h' q (shrunkL side xs) ∧ Keep h.length h h' by
    obtain ⟨q, h', e, o, k⟩ := this
    exact ⟨q, h', e, o, k⟩
  rw [impl_Shrunk.call_eq]
  unfold impl_Shrunk.main
  simp only [env_C, env_lf, env_pick, env_bin, env_un, env_make, env_len]
  have eT := triangleOk_N g lf n (by omega) side hp hl hf
  cases hb : triB side xs with
  | false =>
    rw [hb] at eT
    have hno : shrunkL side xs = [] := by unfold shrunkL; rw [hb]; rfl
    rw [hno]
    repeat (first | with_reducible refine wT ?_ | with_reducible refine wg0 rfl ?_ | with_reducible refine wpT ?_ | with_reducible refine wnF ?_ | with_reducible refine wsm ?_ | with_reducible refine wrN ?_ | with_reducible refine wbd (by assumption) ?_ | dsimp only)
    exact W.ret ⟨OwnSl.nil _ _, Keep.refl _ _⟩
  | true =>
    rw [hb] at eT
    obtain ⟨s, A, hT⟩ := tri_of hb
    obtain ⟨rfl, s1, s4, hA, hx, hlen, _, _⟩ := id hT
    by_cases h2 : 2 ≤ s
    case neg =>
      have hno : shrunkL (s : Int) xs = [] := by unfold shrunkL; rw [hb, decide_eq_false (by omega : ¬ 2 ≤ (s : Int))]; rfl
      rw [hno]
      repeat (first | with_reducible refine wT ?_ | with_reducible refine wg1 rfl ?_ | with_reducible refine wpF ?_ | with_reducible refine wnT ?_ | with_reducible refine wpv ?_ | with_reducible refine wsm ?_ | with_reducible refine wrN ?_ | with_reducible refine wbd (by assumption) ?_ | with_reducible refine weqlT (by omega) ?_ | dsimp only)
      exact W.ret ⟨OwnSl.nil _ _, Keep.refl _ _⟩
    rw [tri_shrunk hT h2]
    have hc10 := cellsT_le (s := s - 1) (by omega)
    have hs10 := cellsT_le s4
    have eS := fun hh => triSize_N g lf (s := s - 1) (by omega) n (by omega) hh
    have hbel := fun k hk => below_lt (s := s) (k := k) s4 hk
    have hbitA : ∀ k, k < cellsT (s - 1) → (shrT s A).testBit k = twoOf (A.testBit k) (A.testBit (belowT k)) (A.testBit (belowT k + 1)) := fun k hk => by
      unfold shrT; rw [bitsF_bit, decide_eq_true hk, Bool.true_and]
    obtain ⟨S, hS⟩ : ∃ S, S = shrT s A := ⟨_, rfl⟩
    rw [← hS] at hbitA ⊢
    obtain ⟨T, hT'⟩ : ∃ T, T = cellsT (s - 1) := ⟨_, rfl⟩
    rw [← hT'] at eS hc10 hbitA ⊢
    rw [← hT'] at hbel
    have hs1 : 1 ≤ s := s1
    repeat (first | with_reducible refine wF ?_ | with_reducible refine wg1 rfl ?_ | with_reducible refine wpF ?_ | with_reducible refine wnT ?_ | with_reducible refine wpv ?_ | with_reducible refine wsm ?_ | with_reducible refine wbd (by assumption) ?_ | (with_reducible refine wsub1 hs1 (by omega) ?_) | (with_reducible refine wbd (eS _) ?_) | with_reducible refine weqlF (by omega) ?_ | dsimp only)
    refine wmake (by omega) fun q h1 o1 k1 => ?_
    have hq := o1.int.len'
    rw [List.length_replicate] at hq
    repeat (first | with_reducible refine wbd (by assumption) ?_ | dsimp only)
    refine loopW (fun m st => ∃ (k : Nat) (ys : List Int) (h2 : PHeap), st = impl_Shrunk.st0 p q (.int .i64 (T : Int)) (.int .i64 (k : Int)) h2 ∧ k + m = T ∧ ys = (fillT T S).take k ++ List.replicate m 0 ∧ OwnSl h.length h2 q ys ∧ Keep h.length h h2) ?_ lf T _ (by omega) ⟨0, _, h1, rfl, by omega, by simp, o1, k1⟩
    rintro n1 m st ⟨k, ys, h2', rfl, hkm, hy, o2, k2⟩ next
    have hp2 := hp.keep k2
    rw [impl_Shrunk.body0_eq]
    unfold impl_Shrunk.body0
    simp only [env_C, env_load, env_store, env_bin, env_indexAddr, env_extract]
    cases m with
    | zero =>
      have hkT : k = T := by omega
      rw [List.replicate_zero, List.append_nil, List.take_of_length_le (by rw [fillT_length]; omega)] at hy
      have hr := o2.res
      repeat (first | with_reducible refine wF ?_ | with_reducible refine wbd (by assumption) ?_ | with_reducible refine wlssF (by omega) ?_ | rw [kLoop_exit] | rw [impl_Shrunk.after0_se0_1_5_23_24_25])
      exact W.ret ⟨hy ▸ o2, k2⟩
    | succ m =>
      have hk : k < T := by omega
      obtain ⟨b1, b2⟩ := hbel k hk
      have eP := fun hh => triPlace_N g lf (k := k) (by omega) n (by omega) hlf hh
      obtain ⟨r1, r2⟩ := place_le (k := k) (by omega)
      have eC := fun hh => triCell_N g lf (r := rowT k + 1) (p := plT k) (by omega) (by omega) n (by omega) hh
      have hbd : cellsT (rowT k + 1) + plT k = belowT k := rfl
      have hbit := hbitA k hk
      obtain ⟨B, hB⟩ : ∃ B, B = belowT k := ⟨_, rfl⟩
      rw [← hB] at hbd b1 hbit
      rw [hbd] at eC
      obtain ⟨a1, ea1, la1⟩ := hp2.at' (i := k) (by omega)
      obtain ⟨a2, ea2, la2⟩ := hp2.at' (i := B) (by omega)
      obtain ⟨a3, ea3, la3⟩ := hp2.at' (i := B + 1) (by omega)
      have v1 := fillT_at hx (k := k) (by omega) (by omega)
      have v2 := fillT_at hx (k := B) (by omega) (by omega)
      have v3 := fillT_at hx (k := B + 1) (by omega) (by omega)
      have hms := most_two (a := A.testBit k) (b := A.testBit B) (c := A.testBit (B + 1))
      rw [← v1, ← v2, ← v3, ← hbit] at hms
      obtain ⟨x1, hx1⟩ : ∃ x, x = xs[k]'(by omega) := ⟨_, rfl⟩
      obtain ⟨x2, hx2⟩ : ∃ x, x = xs[B]'(by omega) := ⟨_, rfl⟩
      obtain ⟨x3, hx3⟩ : ∃ x, x = xs[B + 1]'(by omega) := ⟨_, rfl⟩
      rw [← hx1] at la1 hms
      rw [← hx2] at la2 hms
      rw [← hx3] at la3 hms
      have eM := fun hh => mostOf_N g lf n (by omega) hh x1 x2 x3
      rw [hms] at eM
      have hyl : ys.length = T := by rw [hy, List.length_append, List.length_take, fillT_length, List.length_replicate]; omega
      have hset : ys.set k (if S.testBit k = true then 1 else 2) = (fillT T S).take (k + 1) ++ List.replicate m 0 := by
        rw [hy, set_rep (by rw [List.length_take, fillT_length]; omega), fillT_take hk]
      obtain ⟨v, hv⟩ : ∃ v, v = (if S.testBit k = true then 1 else 2 : Int) := ⟨_, rfl⟩
      rw [← hv] at eM hset
      clear hx1 hx2 hx3 v1 v2 v3 hms
      have hBb : B + 1 < 20 := by omega
      repeat (first | with_reducible refine wT ?_ | with_reducible refine wx0 ?_ | with_reducible refine wx1 ?_ | with_reducible refine wbd (by assumption) ?_ | (with_reducible refine wbd (eP _) ?_) | (with_reducible refine wbd (eC _) ?_) | (with_reducible refine wbd (eM _) ?_) | with_reducible refine wadd1 (by omega) ?_ | with_reducible refine wlssT (by omega) ?_ | dsimp only)
      refine wst o2 (show k < ys.length by omega) fun h3 o3 k3 l3 a e3 => ?_
      repeat (first | with_reducible refine wadd1 (by omega) ?_)
      exact next _ _ (Nat.lt_succ_self m) ⟨k + 1, _, h3, rfl, by omega, hset, o3, k2.trans k3⟩

theorem turned_W {xs : List Int} {p : PV} {h : PHeap} (N : Nat) (hN : 6 ≤ N) (side : Int) (hp : IntSl .i64 h p xs) (hl : xs.length ≤ 2 ^ 35) (hf : xs.length < lf) (hlf : 20 < lf) :
    ∃ q h', CL g lf N fn_impl_TurnedTriangle [.int .i64 side, p] h = some (q, h') ∧ OwnSl h.length h' q (turnedL side xs) ∧ Keep h.length h h' := by
  obtain ⟨n, rfl⟩ : ∃ n, N = n + 1 := ⟨N - 1, by omega⟩
  suffices this : W (CL g lf (n + 1) fn_impl_TurnedTriangle [.int .i64 side, p] h) fun q h' => OwnSl h.length h' q (turnedL side xs) ∧ Keep h.length h h' by
    obtain ⟨q, h', e, o, k⟩ := this
    exact ⟨q, h', e, o, k⟩
  rw [impl_TurnedTriangle.call_eq]
  unfold impl_TurnedTriangle.main
  simp only [env_C, env_lf, env_un, env_make, env_len]
  have eT := triangleOk_N g lf n (by omega) side hp hl hf
  cases hb : triB side xs with
  | false =>
    rw [hb] at eT
    have hno : turnedL side xs = [] := by unfold turnedL; rw [hb]; rfl
    rw [hno]
    repeat (first | with_reducible refine wT ?_ | with_reducible refine wnF ?_ | with_reducible refine wrN ?_ | with_reducible refine wbd (by assumption) ?_ | dsimp only)
    exact W.ret ⟨OwnSl.nil _ _, Keep.refl _ _⟩
  | true =>
    rw [hb] at eT
    obtain ⟨s, A, hT⟩ := tri_of hb
    obtain ⟨rfl, s1, s4, hA, hx, hlen, _, _⟩ := id hT
    rw [tri_turned hT]
    have hc10 := cellsT_le s4
    have hturn := fun k hk => turnK_lt (s := s) (k := k) s4 hk
    have hbitA : ∀ k, k < cellsT s → (turnT s A).testBit k = A.testBit (turnK s k) := fun k hk => by
      unfold turnT; rw [bitsF_bit, decide_eq_true hk, Bool.true_and]
    obtain ⟨S, hS⟩ : ∃ S, S = turnT s A := ⟨_, rfl⟩
    rw [← hS] at hbitA ⊢
    obtain ⟨T, hT'⟩ : ∃ T, T = cellsT s := ⟨_, rfl⟩
    rw [← hT'] at hlen hc10 hbitA hx ⊢
    rw [← hT'] at hturn
    have hlx := hp.len'
    rw [hlen] at hlx
    have hs1 : 1 ≤ s := s1
    repeat (first | with_reducible refine wF ?_ | with_reducible refine wnT ?_ | with_reducible refine wbd (by assumption) ?_ | dsimp only)
    refine wmake (by omega) fun q h1 o1 k1 => ?_
    have hq := o1.int.len'
    rw [List.length_replicate] at hq
    repeat (first | with_reducible refine wbd (by assumption) ?_ | dsimp only)
    refine loopW (fun m st => ∃ (k : Nat) (ys : List Int) (h2 : PHeap), st = impl_TurnedTriangle.st0 (.int .i64 (s : Int)) p q (.int .i64 (T : Int)) (.int .i64 (k : Int)) h2 ∧ k + m = T ∧ ys = (fillT T S).take k ++ List.replicate m 0 ∧ OwnSl h.length h2 q ys ∧ Keep h.length h h2) ?_ lf T _ (by omega) ⟨0, _, h1, rfl, by omega, by simp, o1, k1⟩
    rintro n1 m st ⟨k, ys, h2', rfl, hkm, hy, o2, k2⟩ next
    have hp2 := hp.keep k2
    rw [impl_TurnedTriangle.body0_eq]
    unfold impl_TurnedTriangle.body0
    simp only [env_C, env_load, env_store, env_bin, env_indexAddr, env_extract]
    cases m with
    | zero =>
      have hkT : k = T := by omega
      rw [List.replicate_zero, List.append_nil, List.take_of_length_le (by rw [fillT_length]; omega)] at hy
      have hr := o2.res
      repeat (first | with_reducible refine wF ?_ | with_reducible refine wbd (by assumption) ?_ | with_reducible refine wlssF (by omega) ?_ | rw [kLoop_exit] | rw [impl_TurnedTriangle.after0_se0_0_1_5_17_18_19])
      exact W.ret ⟨hy ▸ o2, k2⟩
    | succ m =>
      have hk : k < T := by omega
      obtain ⟨b1, b2, b3⟩ := hturn k hk
      have eP := fun hh => triPlace_N g lf (k := k) (by omega) n (by omega) hlf hh
      obtain ⟨r1, r2⟩ := place_le (k := k) (by omega)
      have eC := fun hh => triCell_N g lf (r := s - 1 - plT k) (p := rowT k - plT k) (by omega) (by omega) n (by omega) hh
      have hbd : cellsT (s - 1 - plT k) + (rowT k - plT k) = turnK s k := by unfold turnK; omega
      have hbit := hbitA k hk
      obtain ⟨B, hB⟩ : ∃ B, B = turnK s k := ⟨_, rfl⟩
      rw [← hB] at hbd b1 hbit
      rw [hbd] at eC
      obtain ⟨a1, ea1, la1⟩ := hp2.at' (i := B) (by omega)
      have v1 := fillT_at hx (k := B) (by omega) (by omega)
      rw [← hbit] at v1
      rw [v1] at la1
      have hyl : ys.length = T := by rw [hy, List.length_append, List.length_take, fillT_length, List.length_replicate]; omega
      have hset : ys.set k (if S.testBit k = true then 1 else 2) = (fillT T S).take (k + 1) ++ List.replicate m 0 := by
        rw [hy, set_rep (by rw [List.length_take, fillT_length]; omega), fillT_take hk]
      obtain ⟨v, hv⟩ : ∃ v, v = (if S.testBit k = true then 1 else 2 : Int) := ⟨_, rfl⟩
      rw [← hv] at la1 hset
      obtain ⟨R, hR⟩ : ∃ R, R = rowT k := ⟨_, rfl⟩
      obtain ⟨P, hP⟩ : ∃ P, P = plT k := ⟨_, rfl⟩
      rw [← hR, ← hP] at eP eC
      rw [← hR] at r1 r2 b2
      rw [← hP] at r2
      have hPs : P ≤ s - 1 := by omega
      repeat (first | with_reducible refine wT ?_ | with_reducible refine wx0 ?_ | with_reducible refine wx1 ?_ | with_reducible refine wbd (by assumption) ?_ | (with_reducible refine wbd (eP _) ?_) | (with_reducible refine wbd (eC _) ?_) | (with_reducible refine wsub1 hs1 (by omega) ?_) | (with_reducible refine wsubK hPs (by omega) ?_) | (with_reducible refine wsubK r2 (by omega) ?_) | with_reducible refine wlssT (by omega) ?_ | dsimp only)
      refine wst o2 (show k < ys.length by omega) fun h3 o3 k3 l3 a e3 => ?_
      repeat (first | with_reducible refine wadd1 (by omega) ?_)
      exact next _ _ (Nat.lt_succ_self m) ⟨k + 1, _, h3, rfl, by omega, hset, o3, k2.trans k3⟩

theorem lastCell_W {xs : List Int} {p : PV} {h : PHeap} (N : Nat) (hN : 8 ≤ N) (side : Int) (hp : IntSl .i64 h p xs) (hl : xs.length ≤ 2 ^ 35) (hf : xs.length < lf) (hlf : 20 < lf) :
    ∃ h', CL g lf N fn_impl_LastCell [.int .i64 side, p] h = some (.int .i64 (lastL side xs), h') ∧ Keep h.length h h' := by
  obtain ⟨n, rfl⟩ : ∃ n, N = n + 1 := ⟨N - 1, by omega⟩
  have : W (CL g lf (n + 1) fn_impl_LastCell [.int .i64 side, p] h) fun v h' => v = .int .i64 (lastL side xs) ∧ Keep h.length h h' := by
    rw [impl_LastCell.call_eq]
    unfold impl_LastCell.main
    simp only [env_C, env_lf, env_un]
    have eT := triangleOk_N g lf n (by omega) side hp hl hf
    cases hb : triB side xs with
    | false =>
      rw [hb] at eT
      have hno : lastL side xs = 0 := by unfold lastL; rw [hb]; rfl
      rw [hno]
      repeat (first | with_reducible refine wT ?_ | with_reducible refine wnF ?_ | with_reducible refine wrI ?_ | with_reducible refine wbd (by assumption) ?_ | dsimp only)
      exact W.ret ⟨rfl, Keep.refl _ _⟩
    | true =>
      rw [hb] at eT
      obtain ⟨s, A, hT⟩ := tri_of hb
      rw [tri_last hT]
      obtain ⟨v, hv⟩ : ∃ v, v = (if lastT s A = true then 1 else 2 : Int) := ⟨_, rfl⟩
      rw [← hv]
      obtain ⟨rfl, s1, s4, _⟩ := id hT
      repeat (first | with_reducible refine wF ?_ | with_reducible refine wnT ?_ | with_reducible refine wbd (by assumption) ?_ | dsimp only)
      refine loopW (fun m st => ∃ (r B : Nat) (ys : List Int) (q : PV) (h2 : PHeap), st = impl_LastCell.st0 (.int .i64 (r : Int)) q h2 ∧ r = m ∧ Tri (r : Int) ys r B ∧ IntSl .i64 h2 q ys ∧ v = (if lastT r B = true then 1 else 2 : Int) ∧ Keep h.length h h2) ?_ lf s _ (by omega) ⟨s, A, xs, p, h, rfl, rfl, hT, hp, hv, Keep.refl _ _⟩
      rintro n1 m st ⟨r, B, ys, q, h2, rfl, rfl, hT2, o2, hv2, k2⟩ next
      obtain ⟨_, r1, r4, hB, hy, hylen, _, _⟩ := id hT2
      have hr10 := cellsT_le r4
      rw [impl_LastCell.body0_eq]
      unfold impl_LastCell.body0
      simp only [env_C, env_bin]
      by_cases hr : 2 ≤ r
      · obtain ⟨q3, h3, e3, o3, k3⟩ := shrunk_W g lf n (by omega) (r : Int) o2 (by omega) (by omega) hlf
        rw [tri_shrunk hT2 hr] at o3
        have hlt := (shr_lt hT2 hr).1
        have hr1 : 1 ≤ r := r1
        repeat (first | with_reducible refine wT ?_ | with_reducible refine wbd (by assumption) ?_ | (with_reducible refine wsub1 hr1 (by omega) ?_) | with_reducible refine wgtrT (by omega) ?_ | dsimp only)
        exact next _ _ (show r - 1 < r by omega) ⟨r - 1, shrT r B, _, q3, h3, rfl, rfl, Tri.fill (by omega) (by omega) hlt, o3.int, by rw [hv2, last_shr hr], k2.trans (k3.mono k2.1)⟩
      · have hr1 : r = 1 := by omega
        subst hr1
        obtain ⟨a1, ea1, la1⟩ := o2.at' (i := 0) (by rw [hylen]; decide)
        have ea1 : indexAddrP Try.prog 23 q (.int .i64 0) = some a1 := ea1
        have v1 := fillT_at hy (k := 0) (by decide) (by rw [hylen]; decide)
        have v2 : v = (if B.testBit 0 = true then 1 else 2 : Int) := hv2
        rw [v1, ← v2] at la1
        repeat (first | with_reducible refine wF ?_ | with_reducible refine wrI ?_ | with_reducible refine wbd (by assumption) ?_ | with_reducible refine wgtrF (by omega) ?_ | rw [kLoop_exit] | rw [impl_LastCell.after0_se0_0_1_10] | simp only [env_C, env_g, env_lf, env_pick, env_alloc, env_box, env_build, env_buildSlice, env_load, env_store, env_ptr, env_bin, env_un, env_conv, env_make, env_slice, env_fieldAddr, env_field, env_indexAddr, env_index, env_extract, env_len, env_append, env_max, env_min, env_makeMap, env_lookup, env_update])
        exact W.ret ⟨rfl, k2⟩
  obtain ⟨_, h', e, rfl, k⟩ := this
  exact ⟨h', e, k⟩

theorem triangleOkOk : TriangleOkOk7 g lf := fun N hN side xs p h _ hp hl hf => ⟨h, triangleOk_N g lf N (by omega) side hp hl hf, Keep.refl _ _⟩
theorem shrunkOk (hlf : 20 < lf) : ShrunkOk7 g lf := fun N hN side _ _ _ _ hp hl hf => shrunk_W g lf N (by omega) side hp hl hf hlf
theorem turnedTriangleOk (hlf : 20 < lf) : TurnedTriangleOk7 g lf := fun N hN side _ _ _ _ hp hl hf => turned_W g lf N (by omega) side hp hl hf hlf
theorem lastCellOk (hlf : 20 < lf) : LastCellOk7 g lf := fun N hN side _ _ _ _ hp hl hf => lastCell_W g lf N (by omega) side hp hl hf hlf

end Go.Proofs.Ytlefknibddkjpaa

