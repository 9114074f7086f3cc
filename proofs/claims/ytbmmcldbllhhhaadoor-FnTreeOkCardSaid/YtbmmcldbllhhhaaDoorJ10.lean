/- Texts of this seat, in their order, put together by program. -/
import Derived.Test.YtbmmcldbllhhhaaDoorJ9
set_option linter.unusedSimpArgs false
set_option linter.unusedVariables false
set_option linter.unusedSectionVars false
/- The draws of chapter 10: nets rich in trees, sets of wires and of nodes, trees and wires. -/
set_option maxRecDepth 20000
namespace Go.Proofs.YtbmmcldbllhhhaaDoor
open Go Go.Ip G

theorem wc_drop : ∀ (k : Nat) (zs : List (Int × Int)), wc (zs.drop k) = (wc zs).drop (k * 2)
  | 0, _ => rfl
  | k + 1, [] => by simp [wc]
  | k + 1, z :: zs => by
    rw [List.drop_succ_cons, wc_drop k zs, wc, show (k + 1) * 2 = k * 2 + 1 + 1 by omega, List.drop_succ_cons, List.drop_succ_cons]
/-- The end of a slice of wires that the call itself made. -/
def SlW (n : Nat) (h : PHeap) (p : PV) (ws : List (Int × Int)) : Prop :=
  (p = .nilsl ∧ ws = []) ∨ ∃ id k zs, n ≤ id ∧ p = .sl id (k * 2) ws.length ∧ h[id]? = some (.own 2 (wc zs)) ∧ ws = zs.drop k ∧ k ≤ zs.length ∧ (k = 0 ∨ ws ≠ [])
theorem SlW.sl {n : Nat} {h : PHeap} {p : PV} {ws : List (Int × Int)} (s : SlW n h p ws) : WSl h p ws := by
  rcases s with s | ⟨id, k, zs, _, hp, ho, hz, _, hne⟩
  · exact .inl s
  · refine .inr ⟨id, k * 2, hp, hne.imp (fun e => by rw [e]) fun e => e, fun i x hx => ?_⟩
    rw [hz, wc_drop, List.getElem?_drop] at hx
    simp [cellsAt, ho, PObj.get, hx]
theorem OwnW.slw {n : Nat} {h : PHeap} {p : PV} {ws : List (Int × Int)} (s : OwnW n h p ws) : SlW n h p ws := by
  rcases s with s | ⟨id, h1, h2, h3⟩
  · exact .inl s
  · exact .inr ⟨id, 0, ws, h1, by rw [Nat.zero_mul]; exact h2, h3, rfl, Nat.zero_le _, .inl rfl⟩
theorem SlW.keepX {id n m : Nat} {h h' : PHeap} {p : PV} {ws : List (Int × Int)} (s : SlW n h p ws) (hk : KeepX id m h h') (hn : id < n) (hm : h.length ≤ m) : SlW n h' p ws := by
  rcases s with s | ⟨i, k, zs, h1, h2, h3, h4⟩
  · exact .inl s
  · have hi : i < h.length := (List.getElem?_eq_some_iff.1 h3).1
    exact .inr ⟨i, k, zs, h1, h2, by rw [hk.2 i (by omega) (by omega)]; exact h3, h4⟩
theorem SlW.keep {n : Nat} {h h' : PHeap} {p : PV} {ws : List (Int × Int)} (s : SlW n h p ws) (hk : Keep h.length h h') : SlW n h' p ws := by
  rcases s with s | ⟨id, k, zs, h1, h2, h3, h4⟩
  · exact .inl s
  · exact .inr ⟨id, k, zs, h1, h2, by rw [hk.2 id (List.getElem?_eq_some_iff.1 h3).1]; exact h3, h4⟩
theorem wresV {n : Nat} {h : PHeap} {p : PV} {ws : List (Int × Int)} {Q : PV → PHeap → Prop} (s : SlW n h p ws) {f : PV → Res} (hf : W (f p) Q) : W ((resV p).bind f) Q := by
  rcases s with ⟨rfl, _⟩ | ⟨id, k, zs, _, rfl, _, _⟩
  · exact hf
  · exact hf
theorem slice_one {n : Nat} {h : PHeap} {p : PV} {ws : List (Int × Int)} (s : OwnW n h p ws) (hl : 2 ≤ ws.length) : ∃ q, sliceP Tryd.prog 23 p (some (.int .i64 1)) none h = some q ∧ SlW n h q (ws.drop 1) := by
  rcases s with ⟨_, rfl⟩ | ⟨id, h1, rfl, h3⟩
  · simp at hl
  · refine ⟨.sl id (1 * 2) (ws.length - 1), ?_, .inr ⟨id, 1, ws, h1, by rw [List.length_drop], h3, rfl, by omega, .inr fun e => by have := congrArg List.length e; simp at this; omega⟩⟩
    have he : eszAt h id = 2 := by unfold eszAt; rw [h3]; rfl
    have hb : boundP ws.length 0 (some (.int .i64 1)) = some 1 := by simp [boundP]; omega
    have hb0 : boundP ws.length ws.length none = some ws.length := rfl
    simp only [sliceP, twElem, twSize, he, hb, hb0, Option.bind_some]
    rfl
variable (g : Nat → PV) (lf n : Nat)

set_option maxHeartbeats 1000000 in
theorem rich_W {h : PHeap} {id m : Nat} (N : Nat) (hN : 4 ≤ N) (hr : Rd h id m) (hm : m ≤ 500000) (hlf : 20 < lf) :
    W (CL g lf N fn_spec_l20Rich [.ptr id 0] h) fun v h' => ∃ (nodes : Int) (q : PV) (ws : List (Int × Int)) (m' : Nat), v = .tup [.int .i64 nodes, q] ∧ Rd h' id m' ∧ m' ≤ m + 200 ∧ KeepX id h.length h h' ∧ SlW h.length h' q ws ∧ ws.length ≤ 8 ∧ 1 ≤ nodes ∧ nodes ≤ 6 := by
  obtain ⟨n, rfl⟩ : ∃ n, N = n + 1 := ⟨N - 1, by omega⟩
  have hid := hr.lt
  rw [spec_l20Rich.call_eq]
  unfold spec_l20Rich.main
  simp only [env_C, env_lf, env_buildSlice, env_bin, env_extract]
  refine wcall (wires_W g lf n (by omega) 20 (by decide) (by decide) hr (by omega) hlf) fun v h1 ⟨nodes, q, ws, m1, hv, r1, hm1, K1, w1, hw, hn1, hn6⟩ => ?_
  subst hv
  have hl1 := K1.1
  obtain ⟨v2, h2, e2, r2, o2, a1, a2, _⟩ := pick_calls g lf n (by omega) 2 r1 (by omega) (by omega)
  have K2 : KeepX id h.length h h2 := K1.trans o2.x
  have w2 : OwnW h.length h2 q ws := w1.keepX (o2.x (n := h1.length)) (by omega) (Nat.le_refl _)
  have hl2 := K2.1
  by_cases hv0 : v2 = 0
  case neg =>
    repeat (first | with_reducible refine wF ?_ | with_reducible refine wrI ?_ | with_reducible refine wx0 ?_ | with_reducible refine wx1 ?_ | with_reducible refine wbd (by assumption) ?_ | (with_reducible refine wresW w2 ?_) | with_reducible refine weqlF (by omega) ?_ | dsimp only)
    exact W.ret ⟨nodes, q, ws, _, rfl, r2, by omega, K2, w2.slw, hw, hn1, hn6⟩
  obtain ⟨v3, h3, e3, r3, o3, b1, b2, _⟩ := pick_calls g lf n (by omega) 3 r2 (by omega) (by omega)
  obtain ⟨V, rfl⟩ := Int.eq_ofNat_of_zero_le b1
  have hV : V < 3 := by omega
  have K3 : KeepX id h.length h h3 := K2.trans o3.x
  have hl3 := K3.1
  obtain ⟨M, hM⟩ : ∃ M, M = 2 + V := ⟨_, rfl⟩
  have hM2 : (2 : Int) + (V : Int) = (M : Int) := by omega
  have hM5 : M ≤ 4 := by omega
  have hM0 : 2 ≤ M := by omega
  repeat (first | with_reducible refine wT ?_ | with_reducible refine wx0 ?_ | with_reducible refine wx1 ?_ | with_reducible refine wbd (by assumption) ?_ | with_reducible refine weqlT (by omega) ?_ | with_reducible refine wadd (by omega) ?_ | dsimp only)
  refine wemptyW fun q4 h4 w4 k4 => ?_
  have r4 := r3.keep k4 r3.lt
  have K4 : KeepX id h.length h h4 := K3.trans ((Keep.x k4).mono (by omega))
  have w4' : OwnW h.length h4 q4 [] := w4.mono (by omega)
  dsimp only
  refine loopW (fun d s => ∃ (t : Nat) (q : PV) (ws : List (Int × Int)) (m' : Nat) (h5 : PHeap), s = spec_l20Rich.st0 (.ptr id 0) (.int .i64 (M : Int)) q (.int .i64 (t : Int)) h5 ∧ t + d = 2 ∧ Rd h5 id m' ∧ m' ≤ m + 110 + 3 * t ∧ KeepX id h.length h h5 ∧ OwnW h.length h5 q ws ∧ ws.length ≤ 3 * t ∧ t ≤ ws.length) ?_ lf 2 _ (by omega)
    ⟨0, q4, [], m1 + 1 + 1, h4, by rw [hM2]; rfl, rfl, r4, by omega, K4, w4', by simp, by simp⟩
  rintro n1 d s ⟨t, q, ws, m', h5, rfl, htd, r5, hm5, K5, w5, hw1, hw2⟩ next
  have hl5 := K5.1
  rw [spec_l20Rich.body0_eq]
  unfold spec_l20Rich.body0
  simp only [env_lf, env_bin]
  cases d with
  | zero =>
    have ht2 : t = 2 := by omega
    obtain ⟨v6, h6, e6, r6, o6, c1, c2, _⟩ := pick_calls g lf n (by omega) 3 r5 (by omega) (by omega)
    have K6 : KeepX id h.length h h6 := K5.trans o6.x
    have w6 : OwnW h.length h6 q ws := w5.keepX (o6.x (n := h5.length)) (by omega) (Nat.le_refl _)
    by_cases hv6 : v6 = 0
    · obtain ⟨q7, e7, s7⟩ := slice_one w6 (by omega)
      repeat (first | with_reducible refine wT ?_ | with_reducible refine wF ?_ | with_reducible refine wrI ?_ | with_reducible refine wbd (by assumption) ?_ | (with_reducible refine wresV s7 ?_) | with_reducible refine wlssF (by omega) ?_ | with_reducible refine weqlT (by omega) ?_ | rw [kLoop_exit] | rw [spec_l20Rich.after0_se0_0_4_5_6_21] | dsimp only | simp only [env_C, env_Y, env_g, env_lf, env_pick, env_alloc, env_box, env_build, env_buildSlice, env_load, env_store, env_ptr, env_bin, env_un, env_conv, env_make, env_slice, env_fieldAddr, env_field, env_indexAddr, env_index, env_extract, env_len, env_append, env_max, env_min, env_makeMap, env_lookup, env_update, env_clos, env_bstr])
      exact W.ret ⟨_, q7, _, _, rfl, r6, by omega, K6, s7, by rw [List.length_drop]; omega, by omega, by omega⟩
    · repeat (first | with_reducible refine wF ?_ | with_reducible refine wrI ?_ | with_reducible refine wbd (by assumption) ?_ | (with_reducible refine wresW w6 ?_) | with_reducible refine wlssF (by omega) ?_ | with_reducible refine weqlF (by omega) ?_ | rw [kLoop_exit] | rw [spec_l20Rich.after0_se0_0_4_5_6_21] | dsimp only | simp only [env_C, env_Y, env_g, env_lf, env_pick, env_alloc, env_box, env_build, env_buildSlice, env_load, env_store, env_ptr, env_bin, env_un, env_conv, env_make, env_slice, env_fieldAddr, env_field, env_indexAddr, env_index, env_extract, env_len, env_append, env_max, env_min, env_makeMap, env_lookup, env_update, env_clos, env_bstr])
      exact W.ret ⟨_, q, ws, _, rfl, r6, by omega, K6, w6.slw, by omega, by omega, by omega⟩
  | succ d =>
    repeat (first | with_reducible refine wT ?_ | with_reducible refine wlssT (by omega) ?_)
    refine loopW (fun e s => ∃ (k : Nat) (q : PV) (ws : List (Int × Int)) (m' : Nat) (h5 : PHeap), s = spec_l20Rich.st1 (.ptr id 0) (.int .i64 (M : Int)) q (.int .i64 (t : Int)) (.int .i64 (k : Int)) h5 ∧ k + e = M ∧ 1 ≤ k ∧ Rd h5 id m' ∧ m' ≤ m + 110 + 3 * t + (k - 1) ∧ KeepX id h.length h h5 ∧ OwnW h.length h5 q ws ∧ ws.length ≤ 3 * t + (k - 1) ∧ t + (k - 1) ≤ ws.length) ?_ lf (M - 1) _ (by omega)
      ⟨1, q, ws, m', h5, rfl, by omega, by omega, r5, by omega, K5, w5, by omega, by omega⟩
    rintro n2 e s ⟨k, q, ws, m', h6, rfl, hke, hk1, r6, hm6, K6, w6, hw3, hw4⟩ next2
    have hl6 := K6.1
    rw [spec_l20Rich.body1_eq]
    unfold spec_l20Rich.body1
    simp only [env_C, env_build, env_buildSlice, env_bin, env_append]
    cases e with
    | zero =>
      repeat (first | with_reducible refine wF ?_ | with_reducible refine wadd1 (by omega) ?_ | with_reducible refine wlssF (by omega) ?_ | rw [kLoop_exit] | rw [spec_l20Rich.after1_se2_0_4_5_6_7_26] | simp only [env_C, env_Y, env_g, env_lf, env_pick, env_alloc, env_box, env_build, env_buildSlice, env_load, env_store, env_ptr, env_bin, env_un, env_conv, env_make, env_slice, env_fieldAddr, env_field, env_indexAddr, env_index, env_extract, env_len, env_append, env_max, env_min, env_makeMap, env_lookup, env_update, env_clos, env_bstr])
      exact next _ _ (Nat.lt_succ_self d) ⟨t + 1, q, ws, m', h6, rfl, by omega, r6, by omega, K6, w6, by omega, by omega⟩
    | succ e =>
      obtain ⟨v7, h7, e7, r7, o7, c1, c2, _⟩ := pick_calls g lf n (by omega) (k : Int) r6 (by omega) (by omega)
      have K7 : KeepX id h.length h h7 := K6.trans o7.x
      have w7 : OwnW h.length h7 q ws := w6.keepX (o7.x (n := h6.length)) (by omega) (Nat.le_refl _)
      have hl7 := K7.1
      repeat (first | with_reducible refine wT ?_ | with_reducible refine wbd (by assumption) ?_ | (with_reducible refine wbw ?_) | with_reducible refine wlssT (by omega) ?_ | dsimp only)
      refine wapW w7 hl7 (by omega) fun p' h8 w8 k8 => ?_
      have r8 := r7.keep k8 (by omega)
      repeat (first | with_reducible refine wadd1 (by omega) ?_ | dsimp only)
      exact next2 _ _ (Nat.lt_succ_self e) ⟨k + 1, p', _, _, h8, rfl, by omega, by omega, r8, by omega, K7.trans (Keep.x k8), w8, by simp; omega, by simp; omega⟩

theorem treesL_length (nodes : Int) (ws : List (Int × Int)) : (treesL nodes ws).length ≤ 256 := by
  unfold treesL
  by_cases h : wiresB nodes ws = true
  · rw [if_pos h]
    obtain ⟨M, rfl, _, _, _, h28, _, _, _, _, _, hnl⟩ := net_of h
    unfold castN
    rw [List.length_map, treesF_length]
    have := treesN_le (nodes := (M : Int).toNat) (ws := natW ws)
    rw [hnl] at this; omega
  · rw [if_neg h]; exact Nat.zero_le _
theorem treesL_small (nodes : Int) (ws : List (Int × Int)) : ∀ x ∈ treesL nodes ws, ∃ S : Nat, x = (S : Int) ∧ S < 256 := by
  intro x hx
  unfold treesL at hx
  by_cases h : wiresB nodes ws = true
  · rw [if_pos h] at hx
    obtain ⟨M, rfl, _, _, _, h28, _, _, _, _, _, hnl⟩ := net_of h
    unfold castN treesF at hx
    obtain ⟨S, hS, rfl⟩ := List.mem_map.1 hx
    have := List.mem_range.1 (List.mem_filter.1 hS).1
    rw [hnl] at this
    exact ⟨S, rfl, by omega⟩
  · rw [if_neg h] at hx; cases hx

theorem drawTreesOf_W {p : PV} {ys : List Int} {h : PHeap} (N : Nat) (hN : 8 ≤ N) (ha : Arg h p ys) (hlf : 20 < lf) :
    ∃ (nodes : Int) (q : PV) (ws : List (Int × Int)) (h' : PHeap), CL g lf N fn_spec_DrawTreesOf [p] h = some (.tup [.int .i64 nodes, q], h') ∧ Keep h.length h h' ∧ (∃ b, SlW b h' q ws) ∧ ws.length ≤ 8 ∧ 1 ≤ nodes ∧ nodes ≤ 6 := by
  obtain ⟨n, rfl⟩ : ∃ n, N = n + 1 := ⟨N - 1, by omega⟩
  have : W (CL g lf (n + 1) fn_spec_DrawTreesOf [p] h) fun v h' => ∃ (nodes : Int) (q : PV) (ws : List (Int × Int)), v = .tup [.int .i64 nodes, q] ∧ Keep h.length h h' ∧ (∃ b, SlW b h' q ws) ∧ ws.length ≤ 8 ∧ 1 ≤ nodes ∧ nodes ≤ 6 := by
    obtain ⟨h1, e1, r1, k1⟩ := open_calls g lf n (by omega) ha
    rw [spec_DrawTreesOf.call_eq]
    unfold spec_DrawTreesOf.main
    simp only [env_C, env_extract]
    repeat (first | with_reducible refine wbd (by assumption) ?_ | dsimp only)
    refine wcall (rich_W g lf n (by omega) r1 (by omega) hlf) fun v h2 ⟨nodes, q, ws, m1, hv, r2, hm, K, w, hw, hn1, hn6⟩ => ?_
    subst hv
    repeat (first | with_reducible refine wrI ?_ | with_reducible refine wx0 ?_ | with_reducible refine wx1 ?_ | (with_reducible refine wresV w ?_) | dsimp only)
    exact W.ret ⟨nodes, q, ws, rfl, k1.trans (K.keep (Nat.le_of_lt r1.lt)), ⟨_, w⟩, hw, hn1, hn6⟩
  obtain ⟨v, h', e, nodes, q, ws, rfl, rest⟩ := this
  exact ⟨nodes, q, ws, h', e, rest⟩

theorem drawTreePair_W {p : PV} {ys : List Int} {h : PHeap} (N : Nat) (hN : 8 ≤ N) (ha : Arg h p ys) (hlf : 20 < lf) :
    ∃ (nodes : Int) (q : PV) (ws : List (Int × Int)) (h' : PHeap), CL g lf N fn_spec_DrawTreePair [p] h = some (.tup [.int .i64 nodes, q], h') ∧ Keep h.length h h' ∧ (∃ b, SlW b h' q ws) ∧ ws.length ≤ 8 ∧ 1 ≤ nodes ∧ nodes ≤ 6 := by
  obtain ⟨n, rfl⟩ : ∃ n, N = n + 1 := ⟨N - 1, by omega⟩
  have : W (CL g lf (n + 1) fn_spec_DrawTreePair [p] h) fun v h' => ∃ (nodes : Int) (q : PV) (ws : List (Int × Int)), v = .tup [.int .i64 nodes, q] ∧ Keep h.length h h' ∧ (∃ b, SlW b h' q ws) ∧ ws.length ≤ 8 ∧ 1 ≤ nodes ∧ nodes ≤ 6 := by
    obtain ⟨h1, e1, r1, k1⟩ := open_calls g lf n (by omega) ha
    rw [spec_DrawTreePair.call_eq]
    unfold spec_DrawTreePair.main
    simp only [env_C, env_extract]
    repeat (first | with_reducible refine wbd (by assumption) ?_ | dsimp only)
    refine wcall (rich_W g lf n (by omega) r1 (by omega) hlf) fun v h2 ⟨nodes, q, ws, m1, hv, r2, hm, K, w, hw, hn1, hn6⟩ => ?_
    subst hv
    repeat (first | with_reducible refine wrI ?_ | with_reducible refine wx0 ?_ | with_reducible refine wx1 ?_ | (with_reducible refine wresV w ?_) | dsimp only)
    exact W.ret ⟨nodes, q, ws, rfl, k1.trans (K.keep (Nat.le_of_lt r1.lt)), ⟨_, w⟩, hw, hn1, hn6⟩
  obtain ⟨v, h', e, nodes, q, ws, rfl, rest⟩ := this
  exact ⟨nodes, q, ws, h', e, rest⟩

set_option maxHeartbeats 1000000 in
theorem drawTreeOk_W {p : PV} {ys : List Int} {h : PHeap} (N : Nat) (hN : 8 ≤ N) (ha : Arg h p ys) (hlf : 1000 < lf) :
    ∃ (nodes : Int) (q : PV) (ws : List (Int × Int)) (S : Nat) (h' : PHeap), CL g lf N fn_spec_DrawTreeOk [p] h = some (.tup [.int .i64 nodes, q, .int .i64 (S : Int)], h') ∧ Keep h.length h h' ∧ WSl h' q ws ∧ ws.length ≤ 8 ∧ 1 ≤ nodes ∧ nodes ≤ 6 ∧ S ≤ 1000 := by
  obtain ⟨n, rfl⟩ : ∃ n, N = n + 1 := ⟨N - 1, by omega⟩
  have : W (CL g lf (n + 1) fn_spec_DrawTreeOk [p] h) fun v h' => ∃ (nodes : Int) (q : PV) (ws : List (Int × Int)) (S : Nat), v = .tup [.int .i64 nodes, q, .int .i64 (S : Int)] ∧ Keep h.length h h' ∧ WSl h' q ws ∧ ws.length ≤ 8 ∧ 1 ≤ nodes ∧ nodes ≤ 6 ∧ S ≤ 1000 := by
    obtain ⟨h1, e1, r1, k1⟩ := open_calls g lf n (by omega) ha
    rw [spec_DrawTreeOk.call_eq]
    unfold spec_DrawTreeOk.main
    simp only [env_C, env_pick, env_load, env_bin, env_indexAddr, env_extract, env_len]
    repeat (first | with_reducible refine wbd (by assumption) ?_ | dsimp only)
    refine wcall (rich_W g lf n (by omega) r1 (by omega) (by omega)) fun v h2 ⟨nodes, q, ws, m1, hv, r2, hm, K, w, hw, hn1, hn6⟩ => ?_
    subst hv
    have hlw := w.sl.len
    have h28 : 1 <<< ws.length ≤ 256 := by rw [Nat.one_shiftLeft]; exact Nat.pow_le_pow_right (n := 2) (by decide) hw
    have h20 : 1 ≤ 1 <<< ws.length := by rw [Nat.one_shiftLeft]; exact Nat.one_le_two_pow
    have hl2 := K.1
    have hr2 := r2.lt
    obtain ⟨qt, h3, e3, ot, k3⟩ := specTreesOf_calls g lf n (by omega) nodes w.sl (by omega) (by omega) (by omega)
    have r3 := r2.keep k3 hr2
    have K3 : KeepX h.length h1.length h1 h3 := K.trans ((Keep.x k3).mono hl2)
    have w3 : SlW h1.length h3 q ws := w.keep k3
    have hqt := ot.int.len'
    have htl := treesL_length nodes ws
    have htb := treesL_small nodes ws
    obtain ⟨L, hL⟩ : ∃ L, L = treesL nodes ws := ⟨_, rfl⟩
    rw [← hL] at ot hqt htl htb
    have hl3 : h2.length ≤ h3.length := k3.1
    have rest : ∀ (h4 : PHeap) (m4 : Nat), Rd h4 h.length m4 → m4 ≤ 1000 → KeepX h.length h1.length h1 h4 → SlW h1.length h4 q ws → ∃ v5 h5 v6 h6 S, CL g lf n fn_spec_l20Rd_pick [.ptr h.length 0, .int .i64 ((1 <<< ws.length : Nat) : Int)] h4 = some (.int .i64 v5, h5) ∧ CL g lf n fn_spec_l20Rd_pick [.ptr h.length 0, .int .i64 40] h5 = some (.int .i64 v6, h6) ∧
        (∃ A B : Nat, v5 = (A : Int) ∧ v6 = (B : Int) ∧ B < 40 ∧ S = A + B / 39 * 512) ∧ S ≤ 1000 ∧ KeepX h.length h1.length h1 h6 ∧ SlW h1.length h6 q ws := fun h4 m4 r4 hm4 K4 w4 => by
      obtain ⟨v5, h5, e5, r5, o5, b1, b2, _⟩ := pick_calls g lf n (by omega) ((1 <<< ws.length : Nat) : Int) r4 (by omega) (by omega)
      obtain ⟨A, rfl⟩ := Int.eq_ofNat_of_zero_le b1
      obtain ⟨v6, h6, e6, r6, o6, c1, c2, _⟩ := pick_calls g lf n (by omega) 40 r5 (by omega) (by omega)
      obtain ⟨B, rfl⟩ := Int.eq_ofNat_of_zero_le c1
      have hrl := r1.lt
      exact ⟨_, h5, _, h6, A + B / 39 * 512, e5, e6, ⟨A, B, rfl, rfl, by omega, rfl⟩, by omega, (K4.trans (o5.x (n := h1.length))).trans (o6.x (n := h1.length)), (w4.keepX (o5.x (n := h4.length)) hrl (Nat.le_refl _)).keepX (o6.x (n := h5.length)) hrl (Nat.le_refl _)⟩
    have hrl := r1.lt
    by_cases hL0 : L.length = 0
    · obtain ⟨v5, h5, v6, h6, S, e5, e6, ⟨A, B, rfl, rfl, hB, hS⟩, hS1, K6, w6⟩ := rest h3 _ r3 (by omega) K3 w3
      have hq := f_quo39 B hB
      have hB2 : B / 39 ≤ 1 := by omega
      repeat (first | with_reducible refine wF ?_ | with_reducible refine wg0 rfl ?_ | with_reducible refine wpF ?_ | with_reducible refine wsm ?_ | with_reducible refine wrI ?_ | with_reducible refine wx0 ?_ | with_reducible refine wx1 ?_ | with_reducible refine wbd (by assumption) ?_ | (with_reducible refine wresV w6 ?_) | with_reducible refine wshl (by omega) ?_ | with_reducible refine wgtrF (by omega) ?_ | with_reducible refine wadd (by omega) ?_ | with_reducible refine wmul (by omega) ?_ | dsimp only)
      exact W.ret ⟨nodes, q, ws, S, by rw [show (S : Int) = (A : Int) + ((B / 39 : Nat) : Int) * 512 by omega], k1.trans (K6.keep (Nat.le_of_lt r1.lt)), w6.sl, hw, hn1, hn6, hS1⟩
    · obtain ⟨v4, h4, e4, r4, o4, b1, b2, _⟩ := pick_calls g lf n (by omega) 2 r3 (by omega) (by omega)
      have K4 : KeepX h.length h1.length h1 h4 := K3.trans (o4.x (n := h1.length))
      have w4 : SlW h1.length h4 q ws := w3.keepX (o4.x (n := h3.length)) hrl (Nat.le_refl _)
      have ot4 : OwnSl h2.length h4 qt L := ot.keepX (o4.x (n := h3.length)) (by omega) (Nat.le_refl _)
      by_cases hv4 : v4 = 0
      · obtain ⟨v5, h5, e5, r5, o5, c1, c2, _⟩ := pick_calls g lf n (by omega) (L.length : Int) r4 (by omega) (by omega)
        obtain ⟨A, rfl⟩ := Int.eq_ofNat_of_zero_le c1
        have hA : A < L.length := by omega
        have K5 : KeepX h.length h1.length h1 h5 := K4.trans (o5.x (n := h1.length))
        have w5 : SlW h1.length h5 q ws := w4.keepX (o5.x (n := h4.length)) hrl (Nat.le_refl _)
        have ot5 : OwnSl h2.length h5 qt L := ot4.keepX (o5.x (n := h4.length)) (by omega) (Nat.le_refl _)
        obtain ⟨S, hS, hS2⟩ := htb L[A] (List.getElem_mem hA)
        obtain ⟨a, ea, la⟩ := ot5.int.at' hA
        rw [hS] at la
        repeat (first | with_reducible refine wT ?_ | with_reducible refine wg1 rfl ?_ | with_reducible refine wpT ?_ | with_reducible refine wpv ?_ | with_reducible refine wsm ?_ | with_reducible refine wrI ?_ | with_reducible refine wx0 ?_ | with_reducible refine wx1 ?_ | with_reducible refine wbd (by assumption) ?_ | (with_reducible refine wresV w5 ?_) | with_reducible refine wgtrT (by omega) ?_ | with_reducible refine weqlT (by omega) ?_ | dsimp only)
        exact W.ret ⟨nodes, q, ws, S, rfl, k1.trans (K5.keep (Nat.le_of_lt r1.lt)), w5.sl, hw, hn1, hn6, by omega⟩
      · obtain ⟨v5, h5, v6, h6, S, e5, e6, ⟨A, B, rfl, rfl, hB, hS⟩, hS1, K6, w6⟩ := rest h4 _ r4 (by omega) K4 w4
        have hq := f_quo39 B hB
        have hB2 : B / 39 ≤ 1 := by omega
        repeat (first | with_reducible refine wF ?_ | with_reducible refine wg1 rfl ?_ | with_reducible refine wpT ?_ | with_reducible refine wpv ?_ | with_reducible refine wsm ?_ | with_reducible refine wrI ?_ | with_reducible refine wx0 ?_ | with_reducible refine wx1 ?_ | with_reducible refine wbd (by assumption) ?_ | (with_reducible refine wresV w6 ?_) | with_reducible refine wshl (by omega) ?_ | with_reducible refine wgtrT (by omega) ?_ | with_reducible refine weqlF (by omega) ?_ | with_reducible refine wadd (by omega) ?_ | with_reducible refine wmul (by omega) ?_ | dsimp only)
        exact W.ret ⟨nodes, q, ws, S, by rw [show (S : Int) = (A : Int) + ((B / 39 : Nat) : Int) * 512 by omega], k1.trans (K6.keep (Nat.le_of_lt r1.lt)), w6.sl, hw, hn1, hn6, hS1⟩
  obtain ⟨v, h', e, nodes, q, ws, S, rfl, rest⟩ := this
  exact ⟨nodes, q, ws, S, h', e, rest⟩

end Go.Proofs.YtbmmcldbllhhhaaDoor

/- The laws' helpers on slices of wires: copied, compared, marked. -/
set_option maxRecDepth 20000
namespace Go.Proofs.YtbmmcldbllhhhaaDoor
open Go Go.Ip G

section
variable {Q : PV → PHeap → Prop} {h : PHeap} {p : PV} {ws : List (Int × Int)}
end

variable (g : Nat → PV) (lf n : Nat)

/-- Between two marks. -/
def OwnWB (n m : Nat) (h : PHeap) (p : PV) (ws : List (Int × Int)) : Prop := (p = .nilsl ∧ ws = []) ∨ ∃ id, n ≤ id ∧ id < m ∧ p = .sl id 0 ws.length ∧ h[id]? = some (.own 2 (wc ws))
theorem OwnW.b {n : Nat} {h : PHeap} {p : PV} {ws : List (Int × Int)} (s : OwnW n h p ws) : OwnWB n h.length h p ws := by
  rcases s with s | ⟨id, h1, h2, h3⟩
  · exact .inl s
  · exact .inr ⟨id, h1, (List.getElem?_eq_some_iff.1 h3).1, h2, h3⟩
theorem OwnWB.sl {n m : Nat} {h : PHeap} {p : PV} {ws : List (Int × Int)} (s : OwnWB n m h p ws) : OwnW n h p ws := by
  rcases s with s | ⟨id, h1, _, h2, h3⟩
  · exact .inl s
  · exact .inr ⟨id, h1, h2, h3⟩
theorem OwnWB.keep {n m : Nat} {h h' : PHeap} {p : PV} {ws : List (Int × Int)} (s : OwnWB n m h p ws) (k : Keep m h h') : OwnWB n m h' p ws := by
  rcases s with s | ⟨id, h1, h2, h3, h4⟩
  · exact .inl s
  · exact .inr ⟨id, h1, h2, h3, by rw [k.2 id h2]; exact h4⟩
theorem OwnWB.ends {n m : Nat} {h : PHeap} {p : PV} {ws : List (Int × Int)} (s : OwnWB n m h p ws) {i : Nat} (hi : i < ws.length) (x y : Int) : ∃ id h1 h2, indexAddrP Tryd.prog 23 p (.int .i64 (i : Int)) = some (.ptr id (i * 2)) ∧
    storeP Tryd.prog 3 (.ptr id (i * 2 + 0)) (.int .i64 x) h = some h1 ∧ storeP Tryd.prog 3 (.ptr id (i * 2 + 1)) (.int .i64 y) h1 = some h2 ∧ OwnWB n m h2 p (ws.set i (x, y)) ∧ Only n m h h2 := by
  rcases s with ⟨rfl, rfl⟩ | ⟨id, j1, j2, rfl, h3⟩
  · simp at hi
  · have hid : id < h.length := (List.getElem?_eq_some_iff.1 h3).1
    have hwl := wc_length ws
    have e1 := wc_set0 ws i x hi
    have e2 := wc_set1 (ws.set i (x, ws[i].2)) i y (by rw [List.length_set]; exact hi)
    rw [List.getElem_set_self, List.set_set] at e2
    have hwl2 := wc_length (ws.set i (x, ws[i].2))
    rw [List.length_set] at hwl2
    have g1 : (h.set id (.own 2 (wc (ws.set i (x, ws[i].2)))))[id]? = some (.own 2 (wc (ws.set i (x, ws[i].2)))) := by rw [List.getElem?_set_self hid]
    refine ⟨id, h.set id (.own 2 (wc (ws.set i (x, ws[i].2)))), (h.set id (.own 2 (wc (ws.set i (x, ws[i].2))))).set id (.own 2 (wc (ws.set i (x, y)))), by simp [indexAddrP, twS, twSize, hi], ?_, ?_, .inr ⟨id, j1, j2, by simp, by rw [List.getElem?_set_self (by simpa using hid)]⟩, by simp, fun j hj => ?_⟩
    · simp only [storeP, h3, tySize]
      show (if 1 = 1 ∧ i * 2 + 0 + 1 ≤ (wc ws).length then some (h.set id (.own 2 (setCells (wc ws) (i * 2 + 0) [.int .i64 x]))) else none) = _
      rw [if_pos ⟨rfl, by omega⟩]
      simp only [setCells, Nat.add_zero]
      rw [e1]
    · simp only [storeP, g1, tySize]
      show (if 1 = 1 ∧ i * 2 + 1 + 1 ≤ (wc (ws.set i (x, ws[i].2))).length then some ((h.set id (.own 2 (wc (ws.set i (x, ws[i].2))))).set id (.own 2 (setCells (wc (ws.set i (x, ws[i].2))) (i * 2 + 1) [.int .i64 y]))) else none) = _
      rw [if_pos ⟨rfl, by omega⟩]
      simp only [setCells]
      rw [e2]
    · rw [List.getElem?_set_ne (by omega), List.getElem?_set_ne (by omega)]
end Go.Proofs.YtbmmcldbllhhhaaDoor

/- Chapter 3's laws over what the program's functions are asked to compute: the draws, and the exact laws. -/
set_option maxRecDepth 20000
namespace Go.Proofs.YtbmmcldbllhhhaaDoor
open Go Go.Ip G

theorem W.yes {x : Res} (hx : W x fun v _ => v = .bool true) : ∃ h', x = some (.bool true, h') := by
  obtain ⟨_, h', e, rfl⟩ := hx; exact ⟨h', e⟩
section
variable {Q : PV → PHeap → Prop} {b : Bool} {f : PV → Res}
theorem wneqBB (hf : W (f (.bool false)) Q) : W ((binP Tryd.prog .neq 4 (.bool b) (.bool b)).bind f) Q := wbd (by rw [neqB]; simp) hf
end
theorem Fix.re {m : Nat} {h h' : PHeap} {p : PV} {xs : List Int} (s : Fix m h p xs) (k : Keep m h h') (hm : m ≤ h.length) : Fix h'.length h' p xs := fun h2 k2 => s h2 (k.trans (k2.mono (Nat.le_trans hm k.1)))
theorem tabF {g : Nat → PV} {h h1 : PHeap} (t : TabOk g h) (k : Keep h.length h h1) : ∀ h2, Keep h1.length h1 h2 → TabOk g h2 := fun _ k2 => (t.keep k).keep k2

variable (g : Nat → PV) (lf n : Nat)

/-! ### the draws -/
end Go.Proofs.YtbmmcldbllhhhaaDoor

/- What is asked of the program's functions of chapter 9, and their exact laws. -/
set_option maxRecDepth 20000
namespace Go.Proofs.YtbmmcldbllhhhaaDoor
open Go Go.Ip G

def LinksOk (g : Nat → PV) (lf : Nat) : Prop := ∀ (N : Nat), 40 ≤ N → ∀ (nodes set : Int) {ws : List (Int × Int)} {p : PV} {h : PHeap}, TabOk g h → WSl h p ws → ws.length ≤ 2 ^ 35 → ws.length < lf →
  ∃ h', CL g lf N fn_impl_LinksEnds [.int .i64 nodes, p, .int .i64 set] h = some (.bool (linksL nodes ws set), h') ∧ Keep h.length h h'
def WWinOk (g : Nat → PV) (lf : Nat) : Prop := ∀ (N : Nat), 40 ≤ N → ∀ (nodes t : Int) {ws : List (Int × Int)} {p : PV} {os : List Int} {po : PV} {h : PHeap}, TabOk g h → WSl h p ws → ws.length ≤ 2 ^ 35 → ws.length < lf → IntSl .i64 h po os → os.length ≤ 2 ^ 35 → os.length < lf →
  ∃ h', CL g lf N fn_impl_WiresWinner [.int .i64 nodes, p, po, .int .i64 t] h = some (.int .i64 (wwinL nodes ws os t), h') ∧ Keep h.length h h'
variable (g : Nat → PV) (lf n : Nat)

end Go.Proofs.YtbmmcldbllhhhaaDoor

/- What is asked of the program's functions of chapter 10, and their exact laws. -/
set_option maxRecDepth 20000
namespace Go.Proofs.YtbmmcldbllhhhaaDoor
open Go Go.Ip G

def TreeOkOk (g : Nat → PV) (lf : Nat) : Prop := ∀ (N : Nat), 40 ≤ N → ∀ (nodes set : Int) {ws : List (Int × Int)} {p : PV} {h : PHeap}, TabOk g h → WSl h p ws → ws.length ≤ 2 ^ 35 → ws.length < lf →
  ∃ h', CL g lf N fn_impl_TreeOk [.int .i64 nodes, p, .int .i64 set] h = some (.bool (treeL nodes ws set), h') ∧ Keep h.length h h'
def TreePairOk (g : Nat → PV) (lf : Nat) : Prop := ∀ (N : Nat), 40 ≤ N → ∀ (nodes : Int) {ws : List (Int × Int)} {p : PV} {h : PHeap}, TabOk g h → WSl h p ws → ws.length ≤ 2 ^ 35 → ws.length < lf →
  ∃ h', CL g lf N fn_impl_TreePair [.int .i64 nodes, p] h = some (pairP (tpairO nodes ws), h') ∧ Keep h.length h h'
def TreesOfOk (g : Nat → PV) (lf : Nat) : Prop := ∀ (N : Nat), 40 ≤ N → ∀ (nodes : Int) {ws : List (Int × Int)} {p : PV} {h : PHeap}, TabOk g h → WSl h p ws → ws.length ≤ 2 ^ 35 → ws.length < lf →
  ∃ q h', CL g lf N fn_impl_TreesOf [.int .i64 nodes, p] h = some (q, h') ∧ OwnSl h.length h' q (treesL nodes ws) ∧ Keep h.length h h'

variable (g : Nat → PV) (lf n : Nat)

end Go.Proofs.YtbmmcldbllhhhaaDoor

/- The laws of chapter 9 over what the program's functions are asked to compute: wires, links, owners, and what is won. -/
set_option maxRecDepth 20000
namespace Go.Proofs.YtbmmcldbllhhhaaDoor
open Go Go.Ip G

/-! ### one wire more, with what lies between its two steps -/
theorem OwnW.two {n : Nat} {h : PHeap} {p : PV} {ws : List (Int × Int)} (s : OwnW n h p ws) (hn : n ≤ h.length) (a b : Int) (hl : ws.length + 1 ≤ 2 ^ 36) :
    ∃ v p' h', buildSliceP Tryd.prog 23 1 [(0, .agg [.int .i64 a, .int .i64 b])] h = some v ∧ Keep h.length h v.2 ∧ appendP Tryd.prog 23 23 p v.1 v.2 = some (p', h') ∧ OwnW n h' p' (ws ++ [(a, b)]) ∧ Keep n h h' := by
  have hb : buildSliceP Tryd.prog 23 1 [(0, .agg [.int .i64 a, .int .i64 b])] h = some (.sl h.length 0 1, h ++ [.own 2 [.int .i64 a, .int .i64 b]]) := by
    simp [buildSliceP, twElem, twSize, twZero, repeatCells, fillP, PV.cells, PV.oneCell, setCells]
  have hsrc : srcP (h ++ [.own 2 [.int .i64 a, .int .i64 b]]) 2 (.sl h.length 0 1) = some (1, [.int .i64 a, .int .i64 b]) := by
    simp [srcP, cellsAt, PObj.get]
  rcases s with ⟨rfl, rfl⟩ | ⟨id, h1, rfl, h3⟩
  · refine ⟨_, .sl (h.length + 1) 0 1, h ++ [.own 2 [.int .i64 a, .int .i64 b]] ++ [.own 2 [.int .i64 a, .int .i64 b]], hb, Keep.append _ _ _ (Nat.le_refl _), ?_, .inr ⟨h.length + 1, by omega, rfl, ?_⟩, ?_⟩
    · simp [appendP, twElem, twSize, twSmall, hsrc]
    · rw [List.getElem?_append_right (by simp)]; simp [wc]
    · rw [List.append_assoc]; exact Keep.append _ _ _ hn
  · have hid : id < h.length := (List.getElem?_eq_some_iff.1 h3).1
    have h3' : (h ++ [PObj.own 2 [.int .i64 a, .int .i64 b]])[id]? = some (.own 2 (wc ws)) := by rw [List.getElem?_append_left hid]; exact h3
    refine ⟨_, .sl (h.length + 1) 0 (ws.length + 1), ((h ++ [PObj.own 2 [.int .i64 a, .int .i64 b]]).set id .dead ++ [PObj.own 2 (wc ws ++ [.int .i64 a, .int .i64 b])]), hb, Keep.append _ _ _ (Nat.le_refl _), ?_, .inr ⟨h.length + 1, by omega, by simp, ?_⟩, ?_⟩
    · have := wc_length ws
      simp [appendP, twElem, twSize, twSmall, hsrc, h3', hl, this, Nat.mul_comm]
    · rw [List.getElem?_append_right (by simp)]; simp [wc_append, wc]
    · exact ((Keep.append n h _ hn).trans (Keep.set n _ id .dead h1)).trans (Keep.append _ _ _ (by simp; omega))
/-! ### what holds -/
variable (g : Nat → PV) (lf n : Nat)

theorem owners_free (nodes : Int) (ws : List (Int × Int)) : ownersB nodes ws (List.replicate ws.length 0) = wiresB nodes ws := by
  unfold ownersB
  rw [List.length_replicate, decide_eq_true rfl, Bool.and_true]
  have : (List.replicate ws.length (0 : Int)).all contentB = true := List.all_eq_true.2 fun x hx => by rw [(List.mem_replicate.1 hx).2]; rfl
  rw [this, Bool.true_and]

end Go.Proofs.YtbmmcldbllhhhaaDoor

/- The laws of chapter 9, the rest: gaps of wires. -/
set_option maxRecDepth 20000
namespace Go.Proofs.YtbmmcldbllhhhaaDoor
open Go Go.Ip G

variable (g : Nat → PV) (lf n : Nat)

end Go.Proofs.YtbmmcldbllhhhaaDoor

/- The laws of chapter 9, the rest: the wires that win. -/
set_option maxRecDepth 20000
namespace Go.Proofs.YtbmmcldbllhhhaaDoor
open Go Go.Ip G

theorem sorted_getW {L : List Int} (h : L.Pairwise (· < ·)) : ∀ i (hi : i + 1 < L.length), L[i] < L[i + 1] := fun i hi => List.pairwise_iff_getElem.1 h i (i + 1) (by omega) hi (by omega)
variable (g : Nat → PV) (lf n : Nat)

end Go.Proofs.YtbmmcldbllhhhaaDoor

/- The laws of chapter 9, the rest: one wire more. -/
set_option maxRecDepth 20000
namespace Go.Proofs.YtbmmcldbllhhhaaDoor
open Go Go.Ip G

theorem setL_zeros (m : Nat) {P : Int} (hP : P = 1 ∨ P = 2) : setL (List.replicate m (0 : Int)) P = 0 := by
  apply Nat.eq_of_testBit_eq
  intro j
  rw [Nat.zero_testBit]
  cases e : (setL (List.replicate m (0 : Int)) P).testBit j with
  | false => rfl
  | true =>
    have h := setL_bit.1 e
    rw [List.getElem?_replicate] at h
    split at h
    · rcases hP with rfl | rfl <;> cases h
    · cases h
theorem wwin_zeros {nodes : Int} {ws : List (Int × Int)} {T : Nat} (hw : wiresB nodes ws = true) (hT : T = 1 ∨ T = 2) : wwinL nodes ws (List.replicate ws.length 0) (T : Int) = ((gWin (natW ws).length (linkW (natW ws)) (cutW (natW ws)) 0 0 T : Nat) : Int) := by
  unfold wwinL
  rw [owners_free, hw, playerB_of hT, natW_length, setL_zeros _ (.inl rfl), setL_zeros _ (.inr rfl)]
  simp only [Bool.and_self, if_true, Int.toNat_natCast]
variable (g : Nat → PV) (lf n : Nat)

end Go.Proofs.YtbmmcldbllhhhaaDoor

/- The laws of chapter 10 over what the program's functions are asked to compute: trees, pairs of them, replies, a further wire. -/
set_option maxRecDepth 20000
namespace Go.Proofs.YtbmmcldbllhhhaaDoor
open Go Go.Ip G

theorem f_xorN {a b : Nat} (ha : a < 2 ^ 62) (hb : b < 2 ^ 62) : binP Tryd.prog .xor 3 (.int .i64 (a : Int)) (.int .i64 (b : Int)) = some (.int .i64 ((a ^^^ b : Nat) : Int)) := by
  have hz : a ^^^ b < 2 ^ 62 := Nat.xor_lt_two_pow ha hb
  have e : (BitVec.ofInt IntKind.i64.bits (a : Int) ^^^ BitVec.ofInt IntKind.i64.bits (b : Int)).toNat = a ^^^ b := by
    have hbits : IntKind.i64.bits = 64 := rfl
    rw [BitVec.toNat_xor, BitVec.toNat_ofInt, BitVec.toNat_ofInt, hbits]
    congr 1 <;> omega
  have : binP Tryd.prog .xor 3 (.int .i64 (a : Int)) (.int .i64 (b : Int)) = some (.int .i64 (IntKind.i64.wrap ((BitVec.ofInt IntKind.i64.bits (a : Int) ^^^ BitVec.ofInt IntKind.i64.bits (b : Int)).toNat : Int))) := by simp only [binP, binI, if_true]
  rw [this, e, wr (by omega)]
theorem wxorN {a b : Nat} {Q : PV → PHeap → Prop} {f : PV → Res} (ha : a < 2 ^ 62) (hb : b < 2 ^ 62) (hf : W (f (.int .i64 ((a ^^^ b : Nat) : Int))) Q) : W ((binP Tryd.prog .xor 3 (.int .i64 (a : Int)) (.int .i64 (b : Int))).bind f) Q := wbd (f_xorN ha hb) hf

/-! ### what holds -/
theorem treeL_nat {M : Nat} {ws : List (Int × Int)} {S : Nat} (hb : wiresB (M : Int) ws = true) (hS : S < 2 ^ ws.length) : treeL (M : Int) ws (S : Int) = treeW (natW ws) S (2 ^ M - 1) := by
  unfold treeL
  rw [hb, decide_eq_true (by omega : 0 ≤ (S : Int) ∧ (S : Int) < ((2 ^ ws.length : Nat) : Int))]; rfl
theorem tree_flipL {nodes : Int} {ws : List (Int × Int)} {S k : Nat} (h : treeL nodes ws (S : Int) = true) (hk : k < ws.length) : treeL nodes ws ((S ^^^ (1 <<< k) : Nat) : Int) = false := by
  obtain ⟨hb, A, hA, hAl, hAt⟩ := treeL_net h
  obtain ⟨M, rfl, hws, hn, hl8, h28, hM2, hM5, hM32, hpw, hpM, hnl⟩ := net_of hb
  have hA : S = A := by omega
  subst hA
  have h1 : 1 <<< k < 2 ^ ws.length := by rw [Nat.one_shiftLeft]; exact Nat.pow_lt_pow_right (by decide) hk
  rw [treeL_nat hb (Nat.xor_lt_two_pow hAl h1)]
  exact tree_flip hn (by rw [hnl]; exact hAl) (by rw [hnl]; exact hk) hAt
theorem full_one {nodes : Nat} {ws : List (Nat × Nat)} (hn : NetN nodes ws) : (2 ^ nodes - 1).testBit 1 = true := by
  rw [full_bit hn]; exact decide_eq_true (by have := hn.1; omega)
theorem full_zero {nodes : Nat} {ws : List (Nat × Nat)} (hn : NetN nodes ws) : (2 ^ nodes - 1).testBit 0 = true := by
  rw [full_bit hn]; exact decide_eq_true (by have := hn.1; omega)
theorem tree_linkL {nodes : Int} {ws : List (Int × Int)} {S : Nat} (h : treeL nodes ws (S : Int) = true) : linksL nodes ws (S : Int) = true := by
  obtain ⟨hb, A, hA, hAl, hAt⟩ := treeL_net h
  obtain ⟨M, rfl, hws, hn, hl8, h28, hM2, hM5, hM32, hpw, hpM, hnl⟩ := net_of hb
  have hA : S = A := by omega
  subst hA
  unfold linksL
  rw [hb, decide_eq_true (by omega : 0 ≤ (S : Int) ∧ (S : Int) < ((2 ^ ws.length : Nat) : Int)), Int.toNat_natCast, tree_link hn (by rw [hnl]; exact hAl) (full_lt hn) (full_one hn) hAt]; rfl
theorem tree_memL {nodes : Int} {ws : List (Int × Int)} {S : Nat} (hb : wiresB nodes ws = true) (hS : S < 2 ^ ws.length) : decide ((S : Int) ∈ treesL nodes ws) = treeL nodes ws (S : Int) := by
  obtain ⟨M, rfl, hws, hn, hl8, h28, hM2, hM5, hM32, hpw, hpM, hnl⟩ := net_of hb
  rw [treeL_nat hb hS, Bool.eq_iff_iff, decide_eq_true_iff]
  unfold treesL castN treesF
  rw [if_pos hb, List.mem_map, hnl]
  constructor
  · rintro ⟨T, hT, e⟩
    have : T = S := by omega
    subst this
    exact (List.mem_filter.1 hT).2
  · intro h
    exact ⟨S, List.mem_filter.2 ⟨List.mem_range.2 hS, h⟩, rfl⟩
theorem trees_sorted (nodes : Int) (ws : List (Int × Int)) : (treesL nodes ws).Pairwise (· < ·) := by
  unfold treesL
  by_cases h : wiresB nodes ws = true
  · rw [if_pos h]
    unfold castN treesF
    rw [List.pairwise_map]
    exact ((List.pairwise_lt_range).filter _).imp fun h => by omega
  · rw [if_neg h]; exact List.Pairwise.nil
theorem trees_none {nodes : Int} {ws : List (Int × Int)} (h : wiresB nodes ws = false) : treesL nodes ws = [] := by unfold treesL; rw [h]; rfl
theorem pair_wins_free {M : Nat} {ws : List (Int × Int)} (hb : wiresB (M : Int) ws = true) (hn : NetN M (natW ws)) : wwinL (M : Int) ws (List.replicate ws.length 0) 2 = 1 ↔ ∃ X, X < 2 ^ M ∧ X.testBit 0 = true ∧ X.testBit 1 = true ∧ (pairW (natW ws) X).isSome = true := by
  rw [← pair_decides hn]
  have := wwin_zeros hb (.inr rfl : 2 = 1 ∨ 2 = 2)
  rw [show ((2 : Nat) : Int) = 2 from rfl] at this
  rw [this]; omega
variable (g : Nat → PV) (lf n : Nat)

/-! ### the laws -/
theorem fnTreeOk_calls (hT : TreeOkOk g lf) (hLi : LinksOk g lf) {p : PV} {ys : List Int} {h : PHeap} (N : Nat) (hN : 45 ≤ N) (ha : Arg h p ys) (hlf : 3000 < lf) (ht : TabOk g h) :
    ∃ h', CL g lf N fn_laws_FnTreeOk [p] h = some (.bool true, h') := by
  obtain ⟨n, rfl⟩ : ∃ n, N = n + 1 := ⟨N - 1, by omega⟩
  apply W.yes
  rw [laws_FnTreeOk.call_eq]
  unfold laws_FnTreeOk.main
  simp only [env_C, env_lf, env_bin, env_un, env_extract, env_len]
  have hlenp : lenP Tryd.prog 22 p = some (.int .i64 ys.length) := (ha.1 h (Keep.refl _ _)).len tyB
  by_cases hbig : (1048576 : Int) < (ys.length : Int)
  · repeat (first | with_reducible refine wT ?_ | with_reducible refine wrB ?_ | with_reducible refine wbd (by assumption) ?_ | with_reducible refine wgtrT (by omega) ?_)
    exact W.ret rfl
  have hal : ∀ h2, CL g lf n fn_laws_alive [] h2 = some (.bool true, h2) := fun h2 => alive_calls g lf n (by omega) h2
  obtain ⟨nodes, q, ws, S, h1, e1, k1, hq0, hl, hn1, hn6, hS⟩ := drawTreeOk_W g lf n (by omega) ha (by omega)
  have htF := tabF ht k1
  have hw : FixW h1.length h1 q ws := hq0.fix
  obtain ⟨h2, e2, k2⟩ := hT n (by omega) nodes (S : Int) (htF _ (Keep.refl _ _)) hq0 (by omega) (by omega)
  obtain ⟨h3, e3, k3⟩ := specTreeOk_calls g lf n (by omega) nodes (S : Int) (hw.get k2) (by omega) (by omega) (by omega)
  have K3 : Keep h1.length h1 h3 := k2.trans (k3.mono k2.1)
  cases hb : treeL nodes ws (S : Int) with
  | false =>
    rw [hb] at e2 e3
    repeat (first | with_reducible refine wT ?_ | with_reducible refine wF ?_ | with_reducible refine wnF ?_ | with_reducible refine wrB ?_ | with_reducible refine wx0 ?_ | with_reducible refine wx1 ?_ | with_reducible refine wx2 ?_ | with_reducible refine wbd (by assumption) ?_ | (with_reducible refine wneqBB ?_) | (with_reducible refine wbd (hal _) ?_) | with_reducible refine wgtrF (by omega) ?_ | dsimp only)
    exact W.ret rfl
  | true =>
    rw [hb] at e2 e3
    repeat (first | with_reducible refine wF ?_ | with_reducible refine wnT ?_ | with_reducible refine wx0 ?_ | with_reducible refine wx1 ?_ | with_reducible refine wx2 ?_ | with_reducible refine wbd (by assumption) ?_ | (with_reducible refine wneqBB ?_) | with_reducible refine wgtrF (by omega) ?_ | dsimp only)
    refine loopW (fun m st => ∃ (k : Nat) (h5 : PHeap), st = laws_FnTreeOk.st0 (.int .i64 nodes) q (.int .i64 (S : Int)) (.int .i64 (k : Int)) h5 ∧ k + m = ws.length ∧ Keep h1.length h1 h5) ?_ lf ws.length _ (by omega) ⟨0, h3, rfl, by omega, K3⟩
    rintro n1 m st ⟨k, h5, rfl, hkm, K5⟩ next
    have hlw := (hw.get K5).len
    rw [laws_FnTreeOk.body0_eq]
    unfold laws_FnTreeOk.body0
    simp only [env_C, env_bin, env_len]
    cases m with
    | zero =>
      obtain ⟨h6, e6, k6⟩ := hLi n (by omega) nodes (S : Int) (htF _ K5) (hw.get K5) (by omega) (by omega)
      rw [tree_linkL hb] at e6
      repeat (first | with_reducible refine wF ?_ | with_reducible refine wrB ?_ | with_reducible refine wbd (by assumption) ?_ | with_reducible refine wlssF (by omega) ?_ | rw [kLoop_exit] | rw [laws_FnTreeOk.after0_se0_3_4_5_7_33] | dsimp only | simp only [env_C, env_Y, env_g, env_lf, env_pick, env_alloc, env_box, env_build, env_buildSlice, env_load, env_store, env_ptr, env_bin, env_un, env_conv, env_make, env_slice, env_fieldAddr, env_field, env_indexAddr, env_index, env_extract, env_len, env_append, env_max, env_min, env_makeMap, env_lookup, env_update, env_clos, env_bstr])
      exact W.ret rfl
    | succ m =>
      have hk : k < ws.length := by omega
      have hk30 : k ≤ 30 := by omega
      have s1 : 1 <<< k < 2 ^ 62 := by rw [Nat.one_shiftLeft]; exact Nat.pow_lt_pow_right (by decide) (by omega)
      have s2 : S < 2 ^ 62 := by omega
      obtain ⟨h6, e6, k6⟩ := hT n (by omega) nodes ((S ^^^ (1 <<< k) : Nat) : Int) (htF _ K5) (hw.get K5) (by omega) (by omega)
      rw [tree_flipL hb hk] at e6
      repeat (first | with_reducible refine wT ?_ | with_reducible refine wF ?_ | with_reducible refine wbd (by assumption) ?_ | (with_reducible refine wshl hk30 ?_) | (with_reducible refine wxorN s2 s1 ?_) | with_reducible refine wadd1 (by omega) ?_ | with_reducible refine wlssT (by omega) ?_ | dsimp only)
      exact next _ _ (Nat.lt_succ_self m) ⟨k + 1, h6, rfl, by omega, K5.trans (k6.mono K5.1)⟩

theorem fnTreesOf_calls (hTs : TreesOfOk g lf) (hT : TreeOkOk g lf) {p : PV} {ys : List Int} {h : PHeap} (N : Nat) (hN : 45 ≤ N) (ha : Arg h p ys) (hlf : 3000 < lf) (ht : TabOk g h) :
    ∃ h', CL g lf N fn_laws_FnTreesOf [p] h = some (.bool true, h') := by
  obtain ⟨n, rfl⟩ : ∃ n, N = n + 1 := ⟨N - 1, by omega⟩
  apply W.yes
  rw [laws_FnTreesOf.call_eq]
  unfold laws_FnTreesOf.main
  simp only [env_C, env_lf, env_pick, env_bin, env_un, env_extract, env_len]
  have hlenp : lenP Tryd.prog 22 p = some (.int .i64 ys.length) := (ha.1 h (Keep.refl _ _)).len tyB
  by_cases hbig : (1048576 : Int) < (ys.length : Int)
  · repeat (first | with_reducible refine wT ?_ | with_reducible refine wrB ?_ | with_reducible refine wbd (by assumption) ?_ | with_reducible refine wgtrT (by omega) ?_)
    exact W.ret rfl
  have hal : ∀ h2, CL g lf n fn_laws_alive [] h2 = some (.bool true, h2) := fun h2 => alive_calls g lf n (by omega) h2
  obtain ⟨nodes, q, ws, h1, e1, k1, ⟨b0, hs0⟩, hl, hn1, hn6⟩ := drawTreesOf_W g lf n (by omega) ha (by omega)
  have hq0 := hs0.sl
  have htF := tabF ht k1
  have hw : FixW h1.length h1 q ws := hq0.fix
  obtain ⟨q2, h2, e2, o2, k2⟩ := hTs n (by omega) nodes (htF _ (Keep.refl _ _)) hq0 (by omega) (by omega)
  obtain ⟨q3, h3, e3, o3, k3⟩ := specTreesOf_calls g lf n (by omega) nodes (hw.get k2) (by omega) (by omega) (by omega)
  have K3 : Keep h1.length h1 h3 := k2.trans (k3.mono k2.1)
  have hll := treesL_length nodes ws
  have e4 := sameInts_N g lf n (by omega) (o2.keep k3).int o3.int (by omega) (by omega)
  rw [decide_eq_true rfl] at e4
  have f3 : Fix h3.length h3 q2 (treesL nodes ws) := (o2.keep k3).int.fix
  obtain ⟨h4, e5, k4⟩ := specWiresOk_calls g lf n (by omega) nodes (hw.get K3) (by omega) (by omega)
  have K4 : Keep h1.length h1 h4 := K3.trans (k4.mono K3.1)
  have fL : ∀ hh, Keep h4.length h4 hh → IntSl .i64 hh q2 (treesL nodes ws) := fun hh kk => f3 _ (k4.trans (kk.mono k4.1))
  have hlen4 := (fL _ (Keep.refl _ _)).len'
  cases hwb : wiresB nodes ws with
  | false =>
    rw [hwb] at e5
    have hnil := trees_none hwb
    have hz : ((treesL nodes ws).length : Int) = 0 := by rw [hnil]; rfl
    repeat (first | with_reducible refine wT ?_ | with_reducible refine wF ?_ | with_reducible refine wg1 rfl ?_ | with_reducible refine wpT ?_ | with_reducible refine wnT ?_ | with_reducible refine wnF ?_ | with_reducible refine wrB ?_ | with_reducible refine wx0 ?_ | with_reducible refine wx1 ?_ | with_reducible refine wbd (by assumption) ?_ | (with_reducible refine wbd (hal _) ?_) | with_reducible refine wgtrF (by omega) ?_ | with_reducible refine weqlT (by omega) ?_ | dsimp only)
    exact W.ret rfl
  | true =>
    rw [hwb] at e5
    have hasc : ∀ hh, Keep h4.length h4 hh → CL g lf n fn_laws_ascend [q2] hh = some (.bool true, hh) := fun hh kk => ascend_calls g lf n (by omega) (fL _ kk) (sorted_getW (trees_sorted _ _)) (by omega) (by omega)
    have h28 : 2 ^ ws.length ≤ 256 := Nat.pow_le_pow_right (by decide : 0 < 2) hl
    have hpw : (1 <<< ws.length : Nat) = 2 ^ ws.length := Nat.one_shiftLeft _
    repeat (first | with_reducible refine wF ?_ | with_reducible refine wnT ?_ | with_reducible refine wx0 ?_ | with_reducible refine wx1 ?_ | with_reducible refine wbd (by assumption) ?_ | with_reducible refine wgtrF (by omega) ?_ | dsimp only)
    refine loopW (fun m st => ∃ (S : Nat) (h5 : PHeap), st = laws_FnTreesOf.st0 (.int .i64 nodes) q q2 (.int .i64 (S : Int)) h5 ∧ S + m = 2 ^ ws.length ∧ Keep h4.length h4 h5) ?_ lf (2 ^ ws.length) _ (by omega) ⟨0, h4, rfl, by omega, Keep.refl _ _⟩
    rintro n1 m st ⟨S, h5, rfl, hSm, k5⟩ next
    have K5 : Keep h1.length h1 h5 := K4.trans (k5.mono K4.1)
    have hlw := (hw.get K5).len
    rw [laws_FnTreesOf.body0_eq]
    unfold laws_FnTreesOf.body0
    simp only [env_C, env_bin, env_len]
    obtain ⟨T, hT'⟩ : ∃ T, T = 2 ^ ws.length := ⟨_, rfl⟩
    rw [← hT'] at hSm hpw h28
    cases m with
    | zero =>
      have hST : S = T := by omega
      have ea := hasc _ k5
      repeat (first | with_reducible refine wF ?_ | with_reducible refine wg1 rfl ?_ | with_reducible refine wpT ?_ | with_reducible refine wrB ?_ | with_reducible refine wbd (by assumption) ?_ | (rw [hpw]) | (with_reducible refine wbd (hal _) ?_) | with_reducible refine wshl (by omega) ?_ | with_reducible refine wlssF (by omega) ?_ | rw [kLoop_exit] | rw [laws_FnTreesOf.after0_se0_3_4_5_6_38] | dsimp only | simp only [env_C, env_Y, env_g, env_lf, env_pick, env_alloc, env_box, env_build, env_buildSlice, env_load, env_store, env_ptr, env_bin, env_un, env_conv, env_make, env_slice, env_fieldAddr, env_field, env_indexAddr, env_index, env_extract, env_len, env_append, env_max, env_min, env_makeMap, env_lookup, env_update, env_clos, env_bstr])
      exact W.ret rfl
    | succ m =>
      have hS : S < T := by omega
      obtain ⟨h6, e6, k6⟩ := hT n (by omega) nodes (S : Int) (htF _ K5) (hw.get K5) (by omega) (by omega)
      have k56 := k5.trans (k6.mono k5.1)
      have e7 := hasInt_N g lf n (by omega) (S : Int) (fL _ k56) (by omega) (by omega)
      rw [tree_memL hwb (by omega)] at e7
      obtain ⟨b, hbb⟩ : ∃ b, b = treeL nodes ws (S : Int) := ⟨_, rfl⟩
      rw [← hbb] at e6 e7
      repeat (first | with_reducible refine wT ?_ | with_reducible refine wF ?_ | with_reducible refine wbd (by assumption) ?_ | (rw [hpw]) | (with_reducible refine wneqBB ?_) | with_reducible refine wadd1 (by omega) ?_ | with_reducible refine wshl (by omega) ?_ | with_reducible refine wlssT (by omega) ?_ | dsimp only)
      exact next _ _ (Nat.lt_succ_self m) ⟨S + 1, h6, rfl, by omega, k56⟩

theorem fnTreePair_calls (hP : TreePairOk g lf) (hT : TreeOkOk g lf) (hWW : WWinOk g lf) {p : PV} {ys : List Int} {h : PHeap} (N : Nat) (hN : 45 ≤ N) (ha : Arg h p ys) (hlf : 3000 < lf) (ht : TabOk g h) :
    ∃ h', CL g lf N fn_laws_FnTreePair [p] h = some (.bool true, h') := by
  obtain ⟨n, rfl⟩ : ∃ n, N = n + 1 := ⟨N - 1, by omega⟩
  apply W.yes
  rw [laws_FnTreePair.call_eq]
  unfold laws_FnTreePair.main
  simp only [env_C, env_pick, env_bin, env_un, env_make, env_extract, env_len]
  have hlenp : lenP Tryd.prog 22 p = some (.int .i64 ys.length) := (ha.1 h (Keep.refl _ _)).len tyB
  by_cases hbig : (1048576 : Int) < (ys.length : Int)
  · repeat (first | with_reducible refine wT ?_ | with_reducible refine wrB ?_ | with_reducible refine wbd (by assumption) ?_ | with_reducible refine wgtrT (by omega) ?_)
    exact W.ret rfl
  have hal : ∀ h2, CL g lf n fn_laws_alive [] h2 = some (.bool true, h2) := fun h2 => alive_calls g lf n (by omega) h2
  obtain ⟨nodes, q, ws, h1, e1, k1, ⟨b0, hs0⟩, hl, hn1, hn6⟩ := drawTreePair_W g lf n (by omega) ha (by omega)
  have hq0 := hs0.sl
  have htF := tabF ht k1
  have hw : FixW h1.length h1 q ws := hq0.fix
  obtain ⟨h2, e2, k2⟩ := hP n (by omega) nodes (htF _ (Keep.refl _ _)) hq0 (by omega) (by omega)
  obtain ⟨h3, e3, k3⟩ := specTreePair_calls g lf n (by omega) nodes (hw.get k2) (by omega) (by omega) (by omega)
  have K3 : Keep h1.length h1 h3 := k2.trans (k3.mono k2.1)
  cases ho : tpairO nodes ws with
  | none =>
    rw [ho] at e2 e3
    have e2 : CL g lf n fn_impl_TreePair [.int .i64 nodes, q] h1 = some (.tup [.int .i64 0, .int .i64 0, .bool false], h2) := e2
    have e3 : CL g lf n fn_spec_TreePair [.int .i64 nodes, q] h2 = some (.tup [.int .i64 0, .int .i64 0, .bool false], h3) := e3
    repeat (first | with_reducible refine wT ?_ | with_reducible refine wF ?_ | with_reducible refine wg1 rfl ?_ | with_reducible refine wpT ?_ | with_reducible refine wpF ?_ | with_reducible refine wnF ?_ | with_reducible refine wpv ?_ | with_reducible refine wsm ?_ | with_reducible refine wrB ?_ | with_reducible refine wx0 ?_ | with_reducible refine wx1 ?_ | with_reducible refine wx2 ?_ | with_reducible refine wbd (by assumption) ?_ | (with_reducible refine wneqBB ?_) | (with_reducible refine wbd (hal _) ?_) | with_reducible refine wgtrF (by omega) ?_ | with_reducible refine weqlT (by omega) ?_ | with_reducible refine wneqF (by omega) ?_ | dsimp only)
    exact W.ret rfl
  | some ab =>
    obtain ⟨a, b⟩ := ab
    rw [ho] at e2 e3
    have e2 : CL g lf n fn_impl_TreePair [.int .i64 nodes, q] h1 = some (.tup [.int .i64 (a : Int), .int .i64 (b : Int), .bool true], h2) := e2
    have e3 : CL g lf n fn_spec_TreePair [.int .i64 nodes, q] h2 = some (.tup [.int .i64 (a : Int), .int .i64 (b : Int), .bool true], h3) := e3
    unfold tpairO at ho
    by_cases hwb : wiresB nodes ws = true
    case neg => rw [if_neg hwb] at ho; cases ho
    rw [if_pos hwb] at ho
    obtain ⟨M, rfl, hws, hn, hl8, h28, hM2, hM5, hM32, hpw, hpM, hnl⟩ := net_of hwb
    rw [Int.toNat_natCast] at ho
    obtain ⟨pa, pb, pt, pu, pz, _⟩ := pair_some ho
    rw [hnl] at pa pb
    have hwin := (pair_wins_free hwb hn).2 ⟨2 ^ M - 1, by have := Nat.two_pow_pos M; omega, full_zero hn, full_one hn, by rw [ho]; rfl⟩
    have hcnt := pair_wires hn (by rw [hnl]; exact pa) (by rw [hnl]; exact pb) pt pu pz
    rw [hnl] at hcnt
    obtain ⟨h4, e4, k4⟩ := hT n (by omega) (M : Int) (a : Int) (htF _ K3) (hw.get K3) (by omega) (by omega)
    rw [treeL_nat hwb pa, pt] at e4
    have K4 := K3.trans (k4.mono K3.1)
    obtain ⟨h5, e5, k5⟩ := hT n (by omega) (M : Int) (b : Int) (htF _ K4) (hw.get K4) (by omega) (by omega)
    rw [treeL_nat hwb pb, pu] at e5
    have K5 := K4.trans (k5.mono K4.1)
    have hlw := (hw.get K5).len
    have a62 : a < 2 ^ 62 := by omega
    have b62 : b < 2 ^ 62 := by omega
    obtain ⟨c, hc⟩ : ∃ c, c = a &&& b := ⟨_, rfl⟩
    rw [← hc] at pz
    have pz' : (c : Int) = 0 := by omega
    repeat (first | with_reducible refine wF ?_ | with_reducible refine wg1 rfl ?_ | with_reducible refine wpT ?_ | with_reducible refine wpF ?_ | with_reducible refine wnT ?_ | with_reducible refine wpv ?_ | with_reducible refine wsm ?_ | with_reducible refine wx0 ?_ | with_reducible refine wx1 ?_ | with_reducible refine wx2 ?_ | with_reducible refine wbd (by assumption) ?_ | (with_reducible refine wand a62 b62 ?_) | (rw [← hc]) | (with_reducible refine wneqBB ?_) | with_reducible refine wgtrF (by omega) ?_ | with_reducible refine weqlT (by omega) ?_ | with_reducible refine wneqF (by omega) ?_ | dsimp only)
    refine wmake (m := ws.length) (by omega) fun p6 h6 o6 k6 => ?_
    have K6 := K5.trans (k6.mono K5.1)
    obtain ⟨h7, e7, k7⟩ := hWW n (by omega) (M : Int) 2 (htF _ K6) (hw.get K6) (by omega) (by omega) o6.int (by rw [List.length_replicate]; omega) (by rw [List.length_replicate]; omega)
    rw [hwin] at e7
    have K7 := K6.trans (k7.mono K6.1)
    have hM1 : 1 ≤ M := by omega
    have hmul : -4611686018427387904 ≤ (2 : Int) * ((M - 1 : Nat) : Int) ∧ (2 : Int) * ((M - 1 : Nat) : Int) ≤ 4611686018427387904 := by omega
    have hcnt' : (2 : Int) * ((M - 1 : Nat) : Int) ≤ (ws.length : Int) := by omega
    repeat (first | with_reducible refine wg1 rfl ?_ | with_reducible refine wpT ?_ | with_reducible refine wpv ?_ | with_reducible refine wsm ?_ | with_reducible refine wrB ?_ | with_reducible refine wbd (by assumption) ?_ | (with_reducible refine wsub1 hM1 (by omega) ?_) | (with_reducible refine wmul hmul ?_) | with_reducible refine wgeqT (by omega) ?_ | with_reducible refine weqlT (by omega) ?_ | dsimp only)
    exact W.ret rfl

end Go.Proofs.YtbmmcldbllhhhaaDoor

/- The program's chapter 2: Joins, GapOf, GroupOf, Filled and GapCells compute what the model's do. -/
set_option maxRecDepth 20000
namespace Go.Proofs.YtbmmcldbllhhhaaDoor
open Go Go.Ip G

variable (g : Nat → PV) (lf n : Nat)

end Go.Proofs.YtbmmcldbllhhhaaDoor

/- The least cell of a set, as the library finds it by its table of 64 bytes; and comparing a slice with nil, copying it. -/
set_option maxRecDepth 20000
namespace Go.Proofs.YtbmmcldbllhhhaaDoor
open Go Go.Ip G

/-- The least number in a set of nine; nine if there is none. -/
def lowN (x : Nat) : Nat := ((List.range 9).find? fun k => x.testBit k).getD 9
def lsB (x : Nat) : Bool := x.testBit (lowN x) && decide (lowN x < 9) && (List.range (lowN x)).all (fun j => !x.testBit j) && (x &&& (x - 1) == without x (lowN x))
theorem ls_all : ((List.range 512).all fun x => x == 0 || lsB x) = true := by kernel_rfl
theorem low_ok {x : Nat} (hx : x < 2 ^ 9) (h0 : x ≠ 0) : x.testBit (lowN x) = true ∧ lowN x < 9 ∧ (∀ j, j < lowN x → x.testBit j = false) ∧ x &&& (x - 1) = without x (lowN x) := by
  have h := List.all_eq_true.1 ls_all x (List.mem_range.2 hx)
  have h1 : lsB x = true := by
    rcases Bool.or_eq_true_iff.1 h with h | h
    · exact absurd (by simpa using h) h0
    · exact h
  unfold lsB at h1
  simp only [Bool.and_eq_true, decide_eq_true_eq, beq_iff_eq] at h1
  obtain ⟨⟨⟨a, b⟩, c⟩, d⟩ := h1
  exact ⟨a, b, fun j hj => by have := List.all_eq_true.1 c j (List.mem_range.2 hj); simpa using this, d⟩

/-- What the library computes, step by step. -/
def isU (o : Option PV) (a : Nat) : Bool := match o with | some (.int .u64 (.ofNat b)) => b == a | _ => false
theorem isU_eq {o : Option PV} {a : Nat} (h : isU o a = true) : o = some (.int .u64 (a : Int)) := by
  unfold isU at h
  split at h
  · have := beq_iff_eq.1 h; subst this; rfl
  · cases h
def tz5 (x : Nat) : Nat := ((1 <<< lowN x) * 285870213051353865) % 2 ^ 64
def tz6 (x : Nat) : Nat := tz5 x / 2 ^ 58
noncomputable def tzB (x : Nat) : Bool := isU (unP .neg (.int .u64 (x : Int))) (2 ^ 64 - x) && (isU (binP Tryd.prog .and 79 (.int .u64 (x : Int)) (.int .u64 ((2 ^ 64 - x : Nat) : Int))) (1 <<< lowN x) &&
  (isU (binP Tryd.prog .mul 79 (.int .u64 ((1 <<< lowN x : Nat) : Int)) (.int .u64 285870213051353865)) (tz5 x) && (isU (binP Tryd.prog .shr 79 (.int .u64 (tz5 x : Int)) (.int .u64 58)) (tz6 x) && tab64N[tz6 x]? == some (lowN x))))
theorem tz_all : ((List.range 512).all fun x => x == 0 || tzB x) = true := by kernel_rfl
theorem tz_one {x : Nat} (hx : x < 2 ^ 9) (h0 : x ≠ 0) : tzB x = true := by
  have h := List.all_eq_true.1 tz_all x (List.mem_range.2 hx)
  rcases Bool.or_eq_true_iff.1 h with h | h
  · exact absurd (beq_iff_eq.1 h) h0
  · exact h
theorem tz_steps {x : Nat} (hx : x < 2 ^ 9) (h0 : x ≠ 0) : ∃ v3 v4 v5, ∃ i : Nat, unP .neg (.int .u64 (x : Int)) = some v3 ∧ binP Tryd.prog .and 79 (.int .u64 (x : Int)) v3 = some v4 ∧ binP Tryd.prog .mul 79 v4 (.int .u64 285870213051353865) = some v5 ∧
    binP Tryd.prog .shr 79 v5 (.int .u64 58) = some (.int .u64 (i : Int)) ∧ tab64N[i]? = some (lowN x) := by
  have h1 := tz_one hx h0
  unfold tzB at h1
  obtain ⟨a, h1⟩ := Bool.and_eq_true_iff.1 h1
  obtain ⟨b, h1⟩ := Bool.and_eq_true_iff.1 h1
  obtain ⟨c, h1⟩ := Bool.and_eq_true_iff.1 h1
  obtain ⟨d, h1⟩ := Bool.and_eq_true_iff.1 h1
  exact ⟨_, _, _, _, isU_eq a, isU_eq b, isU_eq c, isU_eq d, beq_iff_eq.1 h1⟩

theorem tyTzU : Tryd.prog.underlying 82 = some (.array 64 5) := by kernel_rfl
theorem tyTz1 : sizeT Tryd.prog 5 = some 1 := by kernel_rfl
theorem tyTzA : isAggT Tryd.prog 5 = some false := by kernel_rfl
theorem tzConv (l : Nat) (hl : l < 9) : convP Tryd.prog 5 3 (.int .u8 (l : Int)) = some (.int .i64 (l : Int)) := by
  have : convP Tryd.prog 5 3 (.int .u8 (l : Int)) = some (.int .i64 (IntKind.i64.wrap (l : Int))) := by kernel_rfl
  rw [this, wr (by omega)]
theorem tzConv2 (x : Nat) (hx : x < 2 ^ 9) : convP Tryd.prog 3 74 (.int .i64 (x : Int)) = some (.int .u64 (x : Int)) := by
  have : convP Tryd.prog 3 74 (.int .i64 (x : Int)) = some (.int .u64 (IntKind.u64.wrap (x : Int))) := by kernel_rfl
  rw [this]
  have : IntKind.u64.wrap (x : Int) = (x : Int) := by unfold IntKind.wrap; simp [IntKind.bits, IntKind.signed]; omega
  rw [this]

variable (g : Nat → PV) (lf n : Nat)

/-- The library's table is known to lie somewhere. -/
def Big (g : Nat → PV) : Prop := ∃ id, g 1 = .ptr id 0

theorem tz64_W {x : Nat} (hx : x < 2 ^ 9) (h0 : x ≠ 0) (hb : Big g) {h : PHeap} (ht : Tab64 g h) (N : Nat) (hN : 1 ≤ N) : CL g lf N fn_bits_TrailingZeros64 [.int .u64 (x : Int)] h = some (.int .i64 (lowN x : Int), h) := by
  obtain ⟨n, rfl⟩ : ∃ n, N = n + 1 := ⟨N - 1, by omega⟩
  obtain ⟨id, hg⟩ := hb
  have ho := ht id hg
  obtain ⟨v3, v4, v5, i, e3, e4, e5, e6, hi⟩ := tz_steps hx h0
  have hi64 : i < 64 := (List.getElem?_eq_some_iff.1 hi).1
  have e7 : indexAddrP Tryd.prog 82 (.ptr id 0) (.int .u64 (i : Int)) = some (.ptr id i) := by simp [indexAddrP, tyTzU, tyTz1]; omega
  have e8 : loadP Tryd.prog 5 (.ptr id i) h = some (.int .u8 (lowN x : Int)) := by
    simp [loadP, tyTzA, cellsAt, ho, PObj.get, tab64Cells, hi]
  have e9 := tzConv (lowN x) (low_ok hx h0).2.1
  have : W (CL g lf (n + 1) fn_bits_TrailingZeros64 [.int .u64 (x : Int)] h) fun v h' => v = .int .i64 (lowN x : Int) ∧ h' = h := by
    rw [bits_TrailingZeros64.call_eq]
    unfold bits_TrailingZeros64.main
    simp only [env_g, env_load, env_bin, env_un, env_conv, env_indexAddr]
    refine weqlF (by omega) ?_
    rw [hg]
    repeat (first | with_reducible refine wF ?_ | with_reducible refine wrI ?_ | with_reducible refine wbd (by assumption) ?_)
    exact W.ret ⟨rfl, rfl⟩
  obtain ⟨_, _, e, rfl, rfl⟩ := this
  exact e

theorem leastIn_W {x : Nat} (hx : x < 2 ^ 9) (h0 : x ≠ 0) (hb : Big g) {h : PHeap} (ht : Tab64 g h) (N : Nat) (hN : 3 ≤ N) : CL g lf N fn_impl_leastIn [.int .i64 (x : Int)] h = some (.int .i64 (lowN x : Int), h) := by
  obtain ⟨n, rfl⟩ : ∃ n, N = n + 1 := ⟨N - 1, by omega⟩
  obtain ⟨n, rfl⟩ : ∃ m, n = m + 1 := ⟨n - 1, by omega⟩
  have e1 := tzConv2 x hx
  have e2 := tz64_W g lf hx h0 hb ht n (by omega)
  have e3 : CL g lf (n + 1) fn_bits_TrailingZeros [.int .u64 (x : Int)] h = some (.int .i64 (lowN x : Int), h) := by
    have : W (CL g lf (n + 1) fn_bits_TrailingZeros [.int .u64 (x : Int)] h) fun v h' => v = .int .i64 (lowN x : Int) ∧ h' = h := by
      rw [bits_TrailingZeros.call_eq]
      unfold bits_TrailingZeros.main
      simp only [env_C, env_conv]
      repeat (first | with_reducible refine wF ?_ | with_reducible refine wrI ?_ | with_reducible refine wbd (by assumption) ?_ | dsimp only)
      exact W.ret ⟨rfl, rfl⟩
    obtain ⟨_, _, e, rfl, rfl⟩ := this
    exact e
  have : W (CL g lf (n + 1 + 1) fn_impl_leastIn [.int .i64 (x : Int)] h) fun v h' => v = .int .i64 (lowN x : Int) ∧ h' = h := by
    rw [impl_leastIn.call_eq]
    unfold impl_leastIn.main
    simp only [env_C, env_conv]
    repeat (first | with_reducible refine wrI ?_ | with_reducible refine wbd (by assumption) ?_ | dsimp only)
    exact W.ret ⟨rfl, rfl⟩
  obtain ⟨_, _, e, rfl, rfl⟩ := this
  exact e

/-- What a set loses with its least cell. -/
theorem f_drop {x : Nat} (hx : x < 2 ^ 9) (h0 : x ≠ 0) : binP Tryd.prog .sub 3 (.int .i64 (x : Int)) (.int .i64 1) = some (.int .i64 ((x - 1 : Nat) : Int)) ∧ binP Tryd.prog .and 3 (.int .i64 (x : Int)) (.int .i64 ((x - 1 : Nat) : Int)) = some (.int .i64 (without x (lowN x) : Int)) := by
  refine ⟨by rw [bin_sub, wr (by omega), show (x : Int) - 1 = ((x - 1 : Nat) : Int) by omega], ?_⟩
  rw [f_and (by omega) (by omega), (low_ok hx h0).2.2.2]
theorem without_lt9 {x k : Nat} (hx : x < 2 ^ 9) : without x k < 2 ^ 9 := by rw [← minusN_one]; exact minusN_lt hx
theorem without_less {x : Nat} (hx : x < 2 ^ 9) (h0 : x ≠ 0) : without x (lowN x) < x := by
  have h := (low_ok hx h0).2.2.2
  rw [← h]
  have : x &&& (x - 1) ≤ x - 1 := Nat.and_le_right
  omega

/-! ### slices.Clone -/
end Go.Proofs.YtbmmcldbllhhhaaDoor

/- The program's search: structs and a map on the interpreter's heap; the sets' joining; what stands after a move. -/
set_option maxRecDepth 20000
namespace Go.Proofs.YtbmmcldbllhhhaaDoor
open Go Go.Ip G

/-! ### objects by themselves, and what keeps all but one -/
def At (h : PHeap) (id : Nat) (l : List PV) : Prop := h[id]? = some (.own 1 l)
theorem At.lt {h : PHeap} {id : Nat} {l : List PV} (a : At h id l) : id < h.length := (List.getElem?_eq_some_iff.1 a).1
/-- All is as it was but the object m, and what is behind. -/
def KB (m : Nat) (h h' : PHeap) : Prop := h.length ≤ h'.length ∧ ∀ i, i < h.length → i ≠ m → h'[i]? = h[i]?
theorem KB.refl (m : Nat) (h : PHeap) : KB m h h := ⟨Nat.le_refl _, fun _ _ _ => rfl⟩
theorem KB.trans {m : Nat} {a b c : PHeap} (h : KB m a b) (k : KB m b c) : KB m a c := ⟨Nat.le_trans h.1 k.1, fun i hi hn => (k.2 i (Nat.lt_of_lt_of_le hi h.1) hn).trans (h.2 i hi hn)⟩
theorem Keep.kb {m : Nat} {a b : PHeap} (h : Keep a.length a b) : KB m a b := ⟨h.1, fun i hi _ => h.2 i hi⟩
theorem KB.keep {m n : Nat} {a b : PHeap} (h : KB m a b) (hm : n ≤ m) (hn : n ≤ a.length) : Keep n a b := ⟨h.1, fun i hi => h.2 i (Nat.lt_of_lt_of_le hi hn) (by omega)⟩
theorem At.keep {h h' : PHeap} {id : Nat} {l : List PV} (a : At h id l) (k : Keep h.length h h') : At h' id l := by unfold At; rw [k.2 id a.lt]; exact a
theorem At.kb {h h' : PHeap} {id m : Nat} {l : List PV} (a : At h id l) (k : KB m h h') (hn : id ≠ m) : At h' id l := by unfold At; rw [k.2 id a.lt hn]; exact a
def MapAt (h : PHeap) (m : Nat) (es : List (PV × PV)) : Prop := h[m]? = some (.mp es)
theorem MapAt.lt {h : PHeap} {m : Nat} {es : List (PV × PV)} (a : MapAt h m es) : m < h.length := (List.getElem?_eq_some_iff.1 a).1
theorem MapAt.keep {h h' : PHeap} {m : Nat} {es : List (PV × PV)} (a : MapAt h m es) (k : Keep h.length h h') : MapAt h' m es := by unfold MapAt; rw [k.2 m a.lt]; exact a
theorem MapAt.kb {h h' : PHeap} {id m : Nat} {es : List (PV × PV)} (a : MapAt h m es) (k : KB id h h') (hn : m ≠ id) : MapAt h' m es := by unfold MapAt; rw [k.2 m a.lt hn]; exact a
theorem At.ne {h : PHeap} {id m : Nat} {l : List PV} {es : List (PV × PV)} (a : At h id l) (b : MapAt h m es) : id ≠ m := by
  intro e; subst e; unfold At at a; unfold MapAt at b; rw [a] at b; cases b
theorem Fix.kb {b m : Nat} {h h' : PHeap} {p : PV} {xs : List Int} (s : Fix b h p xs) (k : KB m h h') (hb : b ≤ m) (hb2 : b ≤ h.length) : Fix b h' p xs := s.keep (k.keep hb hb2)

section
variable {Q : PV → PHeap → Prop} {h : PHeap}
/-- A new object. -/
theorem wnew {l : List PV} {x : Res} {f : PV × PHeap → Res} (hx : x = some (.ptr h.length 0, h ++ [.own 1 l])) (hf : ∀ h' id, At h' id l → Keep h.length h h' → h.length ≤ id → W (f (.ptr id 0, h')) Q) : W (x.bind f) Q := by
  rw [hx]
  exact hf _ _ (by unfold At; simp) (Keep.append _ _ _ (Nat.le_refl _)) (Nat.le_refl _)
/-- An object is written to. -/
theorem put_at {id : Nat} {l l' : List PV} (a : At h id l) : At (h.set id (.own 1 l')) id l' ∧ KB id h (h.set id (.own 1 l')) := by
  refine ⟨by unfold At; rw [List.getElem?_set_self a.lt], by simp, fun i _ hn => List.getElem?_set_ne (by omega)⟩
end

/-! ### types -/
theorem tyStA : isAggT Tryd.prog 63 = some true := by kernel_rfl
theorem tySt4 : sizeT Tryd.prog 63 = some 4 := by kernel_rfl
theorem tyStZ : zeroCellsT Tryd.prog 63 = some [.int .i64 0, .int .i64 0, .int .i64 0, .int .i64 0] := by kernel_rfl
theorem tyA3 : Tryd.prog.underlying 61 = some (.array 3 3) := by kernel_rfl
theorem tyMp : Tryd.prog.underlying 56 = some (.map 63 3) := by kernel_rfl
theorem tyMpA : isAggT Tryd.prog 56 = some false := by kernel_rfl
theorem fSt0 (id : Nat) : fieldAddrP Tryd.prog 63 (.ptr id 0) 0 = some (.ptr id 0) := by kernel_rfl
theorem fSt1 (id : Nat) : fieldAddrP Tryd.prog 63 (.ptr id 0) 1 = some (.ptr id 3) := by kernel_rfl
theorem ia3 (id o i : Nat) (hi : i < 3) : indexAddrP Tryd.prog 61 (.ptr id o) (.int .i64 (i : Int)) = some (.ptr id (o + i)) := by simp [indexAddrP, tyA3, tySize]; omega
theorem ld1 {h : PHeap} {id i : Nat} {l : List PV} {v : PV} (a : At h id l) (hv : l[i]? = some v) : loadP Tryd.prog 3 (.ptr id i) h = some v := by
  simp [loadP, tyAgg, cellsAt, show h[id]? = some (.own 1 l) from a, PObj.get, hv]
theorem ldM {h : PHeap} {id i : Nat} {l : List PV} {v : PV} (a : At h id l) (hv : l[i]? = some v) : loadP Tryd.prog 56 (.ptr id i) h = some v := by
  simp [loadP, tyMpA, cellsAt, show h[id]? = some (.own 1 l) from a, PObj.get, hv]
theorem st1 {h : PHeap} {id i : Nat} {l : List PV} {x : Int} (a : At h id l) (hi : i < l.length) : storeP Tryd.prog 3 (.ptr id i) (.int .i64 x) h = some (h.set id (.own 1 (l.set i (.int .i64 x)))) := by
  simp [storeP, show h[id]? = some (.own 1 l) from a, PV.cells, tySize, setCells]; omega

/-! ### what stands -/
def stC (f a b t : Nat) : List PV := [.int .i64 (f : Int), .int .i64 (a : Int), .int .i64 (b : Int), .int .i64 (t : Int)]
def stP (f a b t : Nat) : PV := .agg (stC f a b t)
theorem ldS {h : PHeap} {id f a b t : Nat} (o : At h id (stC f a b t)) : loadP Tryd.prog 63 (.ptr id 0) h = some (stP f a b t) := by
  simp [loadP, tyStA, tySt4, cellsAt, show h[id]? = some (.own 1 (stC f a b t)) from o, PObj.get, stC, stP]
theorem boxS (h : PHeap) (f a b t : Nat) : boxP (stP f a b t) h = some (.ptr h.length 0, h ++ [.own 1 (stC f a b t)]) := by simp [boxP, stP, stC, PV.cells, PV.oneCell]
theorem alS (h : PHeap) : allocP Tryd.prog 63 h = some (.ptr h.length 0, h ++ [.own 1 (stC 0 0 0 0)]) := by simp [allocP, tyStZ, stC]
theorem stS {h : PHeap} {id f a b t f' a' b' t' : Nat} (o : At h id (stC f' a' b' t')) : storeP Tryd.prog 63 (.ptr id 0) (stP f a b t) h = some (h.set id (.own 1 (stC f a b t))) := by
  simp [storeP, show h[id]? = some (.own 1 (stC f' a' b' t')) from o, stP, stC, PV.cells, PV.oneCell, tySt4, setCells]
theorem plainS {f a b t : Nat} : plainEq (stP f a b t) (stP f a b t) = true := plain_agg4

section
variable {Q : PV → PHeap → Prop} {h : PHeap} {id f a b t : Nat}
theorem wboxS {F : PV × PHeap → Res} (hf : ∀ h' id, At h' id (stC f a b t) → Keep h.length h h' → h.length ≤ id → W (F (.ptr id 0, h')) Q) : W ((boxP (stP f a b t) h).bind F) Q := wnew (boxS h f a b t) hf
theorem walS {F : PV × PHeap → Res} (hf : ∀ h' id, At h' id (stC 0 0 0 0) → Keep h.length h h' → h.length ≤ id → W (F (.ptr id 0, h')) Q) : W ((allocP Tryd.prog 63 h).bind F) Q := wnew (alS h) hf
theorem wstS {f' a' b' t' : Nat} (o : At h id (stC f' a' b' t')) {F : PHeap → Res} (hf : ∀ h', At h' id (stC f a b t) → KB id h h' → W (F h') Q) : W ((storeP Tryd.prog 63 (.ptr id 0) (stP f a b t) h).bind F) Q := by
  rw [stS o]; exact hf _ (put_at o).1 (put_at o).2
theorem wst1 {i : Nat} {l : List PV} {x : Int} (o : At h id l) (hi : i < l.length) {F : PHeap → Res} (hf : ∀ h', At h' id (l.set i (.int .i64 x)) → KB id h h' → W (F h') Q) : W ((storeP Tryd.prog 3 (.ptr id i) (.int .i64 x) h).bind F) Q := by
  rw [st1 o hi]; exact hf _ (put_at o).1 (put_at o).2
theorem wia3 {o i : Nat} (hi : i < 3) {F : PV → Res} (hf : W (F (.ptr id (o + i))) Q) : W ((indexAddrP Tryd.prog 61 (.ptr id o) (.int .i64 (i : Int))).bind F) Q := wbd (ia3 id o i hi) hf
end

variable (g : Nat → PV) (lf n : Nat)

theorem exchanged_W (N : Nat) (hN : 1 ≤ N) (h : PHeap) {T : Nat} (hT : T = 1 ∨ T = 2) : CL g lf N fn_impl_exchanged [.int .i64 (T : Int)] h = some (.int .i64 ((3 - T : Nat) : Int), h) := by
  obtain ⟨n, rfl⟩ : ∃ n, N = n + 1 := ⟨N - 1, by omega⟩
  have : W (CL g lf (n + 1) fn_impl_exchanged [.int .i64 (T : Int)] h) fun v h' => v = .int .i64 ((3 - T : Nat) : Int) ∧ h' = h := by
    rw [impl_exchanged.call_eq]
    unfold impl_exchanged.main
    simp only [env_bin]
    rcases hT with rfl | rfl
    · repeat (first | with_reducible refine wT ?_ | with_reducible refine wrI ?_ | with_reducible refine weqlT (by omega) ?_)
      exact W.ret ⟨rfl, rfl⟩
    · repeat (first | with_reducible refine wT ?_ | with_reducible refine wF ?_ | with_reducible refine wrI ?_ | with_reducible refine weqlT (by omega) ?_ | with_reducible refine weqlF (by omega) ?_)
      exact W.ret ⟨rfl, rfl⟩
  obtain ⟨_, _, e, rfl, rfl⟩ := this
  exact e

theorem Keep.kbs {n m : Nat} {a b c : PHeap} (k : Keep n a b) (hn : n ≤ a.length) (k' : KB m b c) (hm : n ≤ m) : Keep n a c := k.trans (k'.keep hm (Nat.le_trans hn k.1))
theorem wia30 {Q : PV → PHeap → Prop} {id o : Nat} {F : PV → Res} (hf : W (F (.ptr id (o + 0))) Q) : W ((indexAddrP Tryd.prog 61 (.ptr id o) (.int .i64 0)).bind F) Q := wbd (ia3 id o 0 (by decide)) hf

theorem after_W {f a b t k : Nat} (hf : f < 2 ^ 9) (ha : a < 2 ^ 9) (hb : b < 2 ^ 9) (hk : k < 9) (ht : t = 1 ∨ t = 2) (N : Nat) (hN : 2 ≤ N) (h : PHeap) :
    W (CL g lf N fn_impl_standing_after [stP f a b t, .int .i64 (k : Int)] h) fun v h' => v = stP (without f k) (putA t k a) (putB t k b) (3 - t) ∧ Keep h.length h h' := by
  obtain ⟨n, rfl⟩ : ∃ n, N = n + 1 := ⟨N - 1, by omega⟩
  have hsl := shl_lt hk
  have e1 : ∀ h, CL g lf n fn_impl_exchanged [.int .i64 (t : Int)] h = some (.int .i64 ((3 - t : Nat) : Int), h) := fun h => exchanged_W g lf n (by omega) h ht
  rw [impl_standing_after.call_eq]
  unfold impl_standing_after.main
  simp only [env_C, env_alloc, env_box, env_load, env_store, env_bin, env_fieldAddr, env_indexAddr]
  refine wboxS fun h1 id o1 k1 l1 => ?_
  dsimp only
  refine walS fun h2 id2 o2 k2 l2 => ?_
  have o1' := o1.keep k2
  have hne : id2 ≠ id := by have := o1.lt; omega
  have kk2 : Keep h.length h h2 := k1.trans (k2.mono k1.1)
  repeat (first | (with_reducible refine wbd (fSt0 _) ?_) | (with_reducible refine wia30 ?_) | (with_reducible refine wbd (ld1 (by assumption) rfl) ?_) | with_reducible refine wshl (by omega) ?_ | with_reducible refine wandNot (by omega) (by omega) ?_ | dsimp only)
  refine wst1 o1' (show 0 + 0 < 4 by decide) fun h3 o3 k3 => ?_
  have o3 : At h3 id (stC (without f k) a b t) := o3
  have o23 := o2.kb k3 hne
  rcases ht with rfl | rfl
  · repeat (first | (with_reducible refine wbd (fSt0 _) ?_) | (with_reducible refine wbd (fSt1 _) ?_) | (with_reducible refine wia3 (by omega) ?_) | (with_reducible refine wbd (ld1 (by assumption) rfl) ?_) | with_reducible refine wshl (by omega) ?_ | with_reducible refine wor (by omega) (by omega) ?_)
    refine wst1 o3 (show 0 + 1 < 4 by decide) fun h4 o4 k4 => ?_
    have o4 : At h4 id (stC (without f k) (a ||| 1 <<< k) b 1) := o4
    have o24 := o23.kb k4 hne
    have e2 := e1 h4
    repeat (first | with_reducible refine wbd (by assumption) ?_ | (with_reducible refine wbd (fSt1 _) ?_) | (with_reducible refine wbd (ld1 (by assumption) rfl) ?_) | dsimp only)
    refine wst1 o4 (show 3 < 4 by decide) fun h5 o5 k5 => ?_
    have o5 : At h5 id (stC (without f k) (a ||| 1 <<< k) b (3 - 1)) := o5
    have o25 := o24.kb k5 hne
    repeat (first | (with_reducible refine wbd (ldS (by assumption)) ?_))
    refine wstS o25 fun h6 o6 k6 => ?_
    repeat (first | (with_reducible refine wbd (ldS (by assumption)) ?_))
    exact W.ret ⟨rfl, (((kk2.kbs (Nat.le_refl _) k3 l1).kbs (Nat.le_refl _) k4 l1).kbs (Nat.le_refl _) k5 l1).kbs (Nat.le_refl _) k6 (Nat.le_trans k1.1 l2)⟩
  · repeat (first | (with_reducible refine wbd (fSt0 _) ?_) | (with_reducible refine wbd (fSt1 _) ?_) | (with_reducible refine wia3 (by omega) ?_) | (with_reducible refine wbd (ld1 (by assumption) rfl) ?_) | with_reducible refine wshl (by omega) ?_ | with_reducible refine wor (by omega) (by omega) ?_)
    refine wst1 o3 (show 0 + 2 < 4 by decide) fun h4 o4 k4 => ?_
    have o4 : At h4 id (stC (without f k) a (b ||| 1 <<< k) 2) := o4
    have o24 := o23.kb k4 hne
    have e2 := e1 h4
    repeat (first | with_reducible refine wbd (by assumption) ?_ | (with_reducible refine wbd (fSt1 _) ?_) | (with_reducible refine wbd (ld1 (by assumption) rfl) ?_) | dsimp only)
    refine wst1 o4 (show 3 < 4 by decide) fun h5 o5 k5 => ?_
    have o5 : At h5 id (stC (without f k) a (b ||| 1 <<< k) (3 - 2)) := o5
    have o25 := o24.kb k5 hne
    repeat (first | (with_reducible refine wbd (ldS (by assumption)) ?_))
    refine wstS o25 fun h6 o6 k6 => ?_
    repeat (first | (with_reducible refine wbd (ldS (by assumption)) ?_))
    exact W.ret ⟨rfl, (((kk2.kbs (Nat.le_refl _) k3 l1).kbs (Nat.le_refl _) k4 l1).kbs (Nat.le_refl _) k5 l1).kbs (Nat.le_refl _) k6 (Nat.le_trans k1.1 l2)⟩

/-! ### a board's search -/
def nearV (R C j : Nat) : Nat := if j < R * C then wideN R C (1 <<< j) else 0
def srchV (R C : Nat) : List Nat := (List.range 9).map (nearV R C) ++ [0, sideN R C 1 false, sideN R C 2 false, 0, sideN R C 1 true, sideN R C 2 true]
def srchC (R C m : Nat) : List PV := (srchV R C).map (fun x : Nat => .int .i64 (x : Int)) ++ [.mapv m]
end Go.Proofs.YtbmmcldbllhhhaaDoor

/- The program's search with its map: who wins what stands, and by which moves. -/
set_option maxRecDepth 20000
namespace Go.Proofs.YtbmmcldbllhhhaaDoor
open Go Go.Ip G

/-- What may stand: free cells, stones of both, who is to move. -/
def Stands (R C f a b t : Nat) : Prop := Pos R C a b ∧ f < 2 ^ 9 ∧ (∀ k, f.testBit k = true ↔ k < R * C ∧ (a ||| b).testBit k = false) ∧ (t = 1 ∨ t = 2)
theorem Stands.put {R C f a b t k : Nat} (h : Stands R C f a b t) (hk : f.testBit k = true) : Stands R C (without f k) (putA t k a) (putB t k b) (3 - t) := by
  obtain ⟨h1, h2, h3, h4⟩ := h
  obtain ⟨k1, k2⟩ := (h3 k).1 hk
  refine ⟨h1.put k1 k2, without_lt9 h2, fun j => ?_, by omega⟩
  rw [without_bit, put_bit, Bool.and_eq_true, h3, Bool.or_eq_false_iff]
  simp only [decide_eq_true_eq, decide_eq_false_iff_not]
  exact ⟨fun ⟨⟨a1, a2⟩, a3⟩ => ⟨a1, a2, a3⟩, fun ⟨a1, a2, a3⟩ => ⟨⟨a1, a2⟩, a3⟩⟩

/-- Every entry of the map tells who wins. -/
def Memo (R C : Nat) (es : List (PV × PV)) : Prop := ∀ p ∈ es, ∃ f a b t, Stands R C f a b t ∧ p = (stP f a b t, .int .i64 (winN R C a b t : Int))

theorem eqK_st {f a b t f' a' b' t' : Nat} (h : eqK (stP f a b t) (stP f' a' b' t') = true) : f = f' ∧ a = a' ∧ b = b' ∧ t = t' := by
  simp only [eqK, stP, stC, eqL, eq1, Bool.and_eq_true, decide_eq_true_eq] at h
  omega
/-! ### the keys -/
theorem keyedSt : keyedB Tryd.prog 63 = true := by kernel_rfl
theorem zeroInt : zero1 Tryd.prog 3 = some (.int .i64 0) := by kernel_rfl
theorem stU : Tryd.prog.underlying 63 = some (.struct (Tryd.prog.fieldsOf 63)) := by kernel_rfl
theorem stF : (Tryd.prog.fieldsOf 63).toList.map (fun f => (f.type, f.offset)) = [(61, 0), (3, 3)] := by kernel_rfl
theorem stN : (Tryd.prog.fieldsOf 63).all (·.name != "_") = true := by kernel_rfl
theorem stK : Tryd.prog.keyType 63 = true := by kernel_rfl
theorem tyIntU : Tryd.prog.underlying 3 = some (.int .i64) := by kernel_rfl
theorem ce1 : Tryd.prog.cellsOf 3 = 1 := by kernel_rfl
theorem ce3 : Tryd.prog.cellsOf 61 = 3 := by kernel_rfl
theorem ce4 : Tryd.prog.cellsOf 63 = 4 := by kernel_rfl
theorem tySz : Nat.ble 2 Tryd.prog.types.size = true := by kernel_rfl
theorem wf_small {x : Nat} (hx : x < 2 ^ 9) : (Lit.int .i64 (x : Int)).wf = true := by
  have h1 : IntKind.i64.min = -9223372036854775808 := by decide
  have h2 : IntKind.i64.max = 9223372036854775807 := by decide
  simp only [Lit.wf, h1, h2, Bool.and_eq_true, decide_eq_true_eq]
  omega
theorem lits_int {D x : Nat} (hx : x < 2 ^ 9) : Tryd.prog.keyLits (D + 1) 3 [.int .i64 (x : Int)] = some [.int .i64 (x : Int)] := by
  simp [Program.keyLits, tyIntU, wf_small hx]
theorem lits_arr {D x y z : Nat} (hx : x < 2 ^ 9) (hy : y < 2 ^ 9) (hz : z < 2 ^ 9) : Tryd.prog.keyLits (D + 2) 61 [.int .i64 (x : Int), .int .i64 (y : Int), .int .i64 (z : Int)] = some [.int .i64 (x : Int), .int .i64 (y : Int), .int .i64 (z : Int)] := by
  unfold Program.keyLits
  rw [tyA3]
  simp only [ce1, ce3, List.length_cons, List.length_nil, if_true]
  rw [show List.range 3 = [0, 1, 2] from rfl]
  simp [lits_int hx, lits_int hy, lits_int hz]
theorem lits_st {D f a b t : Nat} (hf : f < 2 ^ 9) (ha : a < 2 ^ 9) (hb : b < 2 ^ 9) (ht : t < 2 ^ 9) : ∃ L, Tryd.prog.keyLits (D + 3) 63 [.int .i64 (f : Int), .int .i64 (a : Int), .int .i64 (b : Int), .int .i64 (t : Int)] = some L := by
  unfold Program.keyLits
  rw [stU]
  simp only [ce4, List.length_cons, List.length_nil, stN, and_self, if_true]
  have hF := stF
  generalize Tryd.prog.fieldsOf 63 = fs at hF ⊢
  obtain ⟨L⟩ := fs
  match L, hF with
  | [f0, f1], hF =>
    simp only [List.map_cons, List.map_nil, List.cons.injEq, Prod.mk.injEq, and_true] at hF
    obtain ⟨⟨t0, o0⟩, t1, o1⟩ := hF
    refine ⟨[.int .i64 (f : Int), .int .i64 (a : Int), .int .i64 (b : Int), .int .i64 (t : Int)], ?_⟩
    simp [t0, o0, t1, o1, ce1, ce3, lits_arr hf ha hb, lits_int ht]
  | [], hF => simp at hF
  | [_], hF => simp at hF
  | _ :: _ :: _ :: _, hF => simp at hF
/-- The search of a board: its tables, and its map, right in every entry. -/
def Sch (R C : Nat) (h : PHeap) (s m : Nat) : Prop := At h s (srchC R C m) ∧ ∃ es, MapAt h m es ∧ Memo R C es
theorem Sch.keep {R C s m : Nat} {h h' : PHeap} (hs : Sch R C h s m) (k : Keep h.length h h') : Sch R C h' s m := by
  obtain ⟨a, es, b, c⟩ := hs; exact ⟨a.keep k, es, b.keep k, c⟩
theorem Sch.ne {R C s m id : Nat} {h : PHeap} {l : List PV} (hs : Sch R C h s m) (a : At h id l) : id ≠ m := by
  obtain ⟨_, es, b, _⟩ := hs; exact a.ne b
theorem Sch.lt {R C s m : Nat} {h : PHeap} (hs : Sch R C h s m) : m < h.length := by
  obtain ⟨_, es, b, _⟩ := hs; exact b.lt
theorem Tab64.kb {g : Nat → PV} {R C s m : Nat} {h h' : PHeap} (t : Tab64 g h) (hs : Sch R C h s m) (k : KB m h h') : Tab64 g h' := fun id e => by
  have ho := t id e
  obtain ⟨_, es, b, _⟩ := hs
  rw [k.2 id (List.getElem?_eq_some_iff.1 ho).1 (fun e => by subst e; unfold MapAt at b; rw [ho] at b; cases b)]; exact ho
variable (g : Nat → PV) (lf n : Nat)

end Go.Proofs.YtbmmcldbllhhhaaDoor

/- The program's search: made for a board, begun at a position; the moves by which one wins. -/
set_option maxRecDepth 20000
namespace Go.Proofs.YtbmmcldbllhhhaaDoor
open Go Go.Ip G

variable (g : Nat → PV) (lf n : Nat)

/-! ### a search is made -/
theorem wmkM {Q : PV → PHeap → Prop} {h : PHeap} {F : PV × PHeap → Res} (hf : ∀ h' m, MapAt h' m [] → Keep h.length h h' → h.length ≤ m → W (F (.mapv m, h')) Q) : W ((makeMapP none h).bind F) Q :=
  hf _ _ (by unfold MapAt; simp) (Keep.append _ _ _ (Nat.le_refl _)) (Nat.le_refl _)

/-! ### where it begins -/
theorem bldSt (t : Nat) : buildP Tryd.prog 63 [(1, .int .i64 (t : Int))] = some (stP 0 0 0 t) := by kernel_rfl
theorem standingOf_W {xs : List Int} {p : PV} {h : PHeap} (hp : IntSl .i64 h p xs) (hl : xs.length ≤ 20) (t : Nat) (N : Nat) (hN : 2 ≤ N) (hlf : 1000 < lf) :
    W (CL g lf N fn_impl_standingOf [p, .int .i64 (t : Int)] h) fun v h' => v = stP (setL xs 0) (setL xs 1) (setL xs 2) t ∧ Keep h.length h h' := by
  obtain ⟨n, rfl⟩ : ∃ n, N = n + 1 := ⟨N - 1, by omega⟩
  rw [impl_standingOf.call_eq]
  unfold impl_standingOf.main
  simp only [env_lf, env_alloc, env_build, env_store]
  refine walS fun h1 id1 o1 k1 l1 => ?_
  refine wbd (bldSt t) ?_
  dsimp only
  refine walS fun h2 id2 o2 k2 l2 => ?_
  dsimp only
  have o1' := o1.keep k2
  have hne : id1 ≠ id2 := by have := o1.lt; omega
  refine wstS o2 fun h3 o3 k3 => ?_
  have o13 := o1'.kb k3 hne
  have kk : Keep h.length h h3 := (k1.trans (k2.mono k1.1)).kbs (Nat.le_refl _) k3 (Nat.le_trans k1.1 l2)
  have ll2 : h.length ≤ id2 := Nat.le_trans k1.1 l2
  refine loopW (fun m' st => ∃ (P u v w : Nat) (h4 : PHeap), st = impl_standingOf.st0 p (.ptr id1 0) (.ptr id2 0) (.int .i64 (P : Int)) h4 ∧ P + m' = 3 ∧ At h4 id2 (stC u v w t) ∧ At h4 id1 (stC 0 0 0 0) ∧ Keep h.length h h4 ∧ (1 ≤ P → u = setL xs 0) ∧ (2 ≤ P → v = setL xs 1) ∧ (3 ≤ P → w = setL xs 2)) ?_ lf 3 _ (by omega) ⟨0, 0, 0, 0, h3, rfl, rfl, o3, o13, kk, by omega, by omega, by omega⟩
  rintro n1 m1 st ⟨P, u, v, w, h4, rfl, hPm, o4, o14, k4, hu, hv, hw⟩ next
  have hP : P = 0 ∨ P = 1 ∨ P = 2 ∨ P = 3 := by omega
  have hp4 := hp.keep k4
  have e0 := setOf_W g lf ((0 : Nat) : Int) hp4 hl n (by omega) hlf
  have e1 := setOf_W g lf ((1 : Nat) : Int) hp4 hl n (by omega) hlf
  have e2 := setOf_W g lf ((2 : Nat) : Int) hp4 hl n (by omega) hlf
  rw [impl_standingOf.body0_eq]
  unfold impl_standingOf.body0
  simp only [env_C, env_store, env_bin, env_fieldAddr, env_indexAddr]
  rcases hP with rfl | rfl | rfl | rfl
  · repeat (first | with_reducible refine wT ?_ | with_reducible refine wbd (by assumption) ?_ | (with_reducible refine wbd (fSt0 _) ?_) | (with_reducible refine wia3 (by omega) ?_) | with_reducible refine wlssT (by omega) ?_ | dsimp only)
    refine wst1 o4 (show 0 + 0 < 4 by decide) fun h5 o5 k5 => ?_
    repeat (first | with_reducible refine wadd1 (by omega) ?_)
    exact next _ _ (show 2 < m1 by omega) ⟨1, setL xs 0, v, w, h5, rfl, rfl, o5, o14.kb k5 hne, k4.kbs (Nat.le_refl _) k5 ll2, fun _ => rfl, by omega, by omega⟩
  · repeat (first | with_reducible refine wT ?_ | with_reducible refine wbd (by assumption) ?_ | (with_reducible refine wbd (fSt0 _) ?_) | (with_reducible refine wia3 (by omega) ?_) | with_reducible refine wlssT (by omega) ?_ | dsimp only)
    refine wst1 o4 (show 0 + 1 < 4 by decide) fun h5 o5 k5 => ?_
    repeat (first | with_reducible refine wadd1 (by omega) ?_)
    exact next _ _ (show 1 < m1 by omega) ⟨2, u, setL xs 1, w, h5, rfl, rfl, o5, o14.kb k5 hne, k4.kbs (Nat.le_refl _) k5 ll2, fun _ => hu (by decide), fun _ => rfl, by omega⟩
  · repeat (first | with_reducible refine wT ?_ | with_reducible refine wbd (by assumption) ?_ | (with_reducible refine wbd (fSt0 _) ?_) | (with_reducible refine wia3 (by omega) ?_) | with_reducible refine wlssT (by omega) ?_ | dsimp only)
    refine wst1 o4 (show 0 + 2 < 4 by decide) fun h5 o5 k5 => ?_
    repeat (first | with_reducible refine wadd1 (by omega) ?_)
    exact next _ _ (show 0 < m1 by omega) ⟨3, u, v, setL xs 2, h5, rfl, rfl, o5, o14.kb k5 hne, k4.kbs (Nat.le_refl _) k5 ll2, fun _ => hu (by decide), fun _ => hv (by decide), fun _ => rfl⟩
  · repeat (first | with_reducible refine wF ?_ | (with_reducible refine wbd (ldS (by assumption)) ?_) | with_reducible refine wlssF (by omega) ?_ | rw [kLoop_exit] | rw [impl_standingOf.after0_se0_0_4_5_9_10] | simp only [env_C, env_Y, env_g, env_lf, env_pick, env_alloc, env_box, env_build, env_buildSlice, env_load, env_store, env_ptr, env_bin, env_un, env_conv, env_make, env_slice, env_fieldAddr, env_field, env_indexAddr, env_index, env_extract, env_len, env_append, env_max, env_min, env_makeMap, env_lookup, env_update, env_clos, env_bstr])
    refine wstS o14 fun h5 o5 k5 => ?_
    repeat (first | (with_reducible refine wbd (ldS (by assumption)) ?_))
    exact W.ret ⟨by rw [hu (by decide), hv (by decide), hw (by decide)], k4.kbs (Nat.le_refl _) k5 l1⟩

end Go.Proofs.YtbmmcldbllhhhaaDoor

/- All sets of the cells of a set, in ascending order, by a carry that passes over the other cells. No program text. -/
set_option maxRecDepth 20000
namespace Go.Proofs.YtbmmcldbllhhhaaDoor
open Go Go.Ip G

/-- All sets of the cells of a list, the first cell the fastest. -/
def partsN : List Nat → List Nat
  | [] => [0]
  | c :: l => (partsN l).flatMap fun x => [x, x ||| (1 <<< c)]
theorem partsN_length : ∀ l : List Nat, (partsN l).length = 2 ^ l.length
  | [] => rfl
  | c :: l => by
    rw [partsN, List.length_cons, Nat.pow_succ, ← partsN_length l]
    generalize partsN l = L
    induction L with
    | nil => rfl
    | cons x L ih => rw [List.flatMap_cons, List.length_append, ih, List.length_cons]; simp only [List.length_cons, List.length_nil]; omega

/-- What is computed: all cells outside of the set and those of p, one more, in the set. -/
def outI (F : Int) : Int := IntKind.i64.wrap ((BitVec.ofInt IntKind.i64.bits (if IntKind.i64.signed then -1 else IntKind.i64.max) ^^^ BitVec.ofInt IntKind.i64.bits F).toNat)
def orI (a b : Int) : Int := IntKind.i64.wrap ((BitVec.ofInt IntKind.i64.bits a ||| BitVec.ofInt IntKind.i64.bits b).toNat)
def andI (a b : Int) : Int := IntKind.i64.wrap ((BitVec.ofInt IntKind.i64.bits a &&& BitVec.ofInt IntKind.i64.bits b).toNat)
def nextI (F p : Int) : Int := andI (IntKind.i64.wrap (orI p (outI F) + 1)) F
def chainB (F : Nat) : Nat → List Nat → Bool
  | p, [] => p == F
  | p, q :: l => p != F && (nextI (F : Int) (p : Int) == (q : Int)) && chainB F q l
def chainsB (F : Nat) : Bool := match partsN (cellsN F) with
  | [] => false
  | p :: l => p == 0 && chainB F 0 l
theorem chains_all : ((List.range 32).all fun a => (List.range 16).all fun b => chainsB (a * 16 + b)) = true := by kernel_rfl
theorem chain_of {F : Nat} (hF : F < 2 ^ 9) : ∃ l, partsN (cellsN F) = 0 :: l ∧ chainB F 0 l = true := by
  have h := List.all_eq_true.1 (List.all_eq_true.1 chains_all (F / 16) (List.mem_range.2 (by omega))) (F % 16) (List.mem_range.2 (Nat.mod_lt _ (by decide)))
  rw [show F / 16 * 16 + F % 16 = F by omega] at h
  unfold chainsB at h
  split at h
  · cases h
  · rename_i p l e
    rw [Bool.and_eq_true, beq_iff_eq] at h
    obtain ⟨rfl, h⟩ := h
    exact ⟨l, e, h⟩
end Go.Proofs.YtbmmcldbllhhhaaDoor

/- Lists that are in order by a number: blocks, and what is merged; all sets of the cells of a set by their sizes. No program text. -/
set_option maxRecDepth 20000
namespace Go.Proofs.YtbmmcldbllhhhaaDoor
open Go Go.Ip G

section
variable (kf cf : Int → Nat)
/-- In order, none twice. -/
def Srt (l : List Int) : Prop := l.Pairwise fun a b => kf a < kf b
/-- The coarse number tells of the two, the one from before and the one from behind, what the fine one tells. -/
def Cp (a b : Int) : Prop := kf a ≠ kf b ∧ (cf b < cf a ↔ kf b < kf a)
/-- In blocks of so many, each in order. -/
inductive Blk (bs : Nat) : List Int → List Int → Prop
  | last {l s : List Int} : l.length ≤ bs → s.Perm l → Srt kf s → Blk bs l s
  | more {a sa r ys : List Int} : a.length = bs → sa.Perm a → Srt kf sa → Blk bs r ys → Blk bs (a ++ r) (sa ++ ys)
end

section
variable {kf cf : Int → Nat}
theorem Srt.app {a b : List Int} (ha : Srt kf a) (hb : Srt kf b) (h : ∀ x ∈ a, ∀ y ∈ b, kf x < kf y) : Srt kf (a ++ b) := List.pairwise_append.2 ⟨ha, hb, h⟩
theorem Srt.left {a b : List Int} (h : Srt kf (a ++ b)) : Srt kf a := (List.pairwise_append.1 h).1
theorem Srt.right {a b : List Int} (h : Srt kf (a ++ b)) : Srt kf b := (List.pairwise_append.1 h).2.1
theorem Srt.one (x : Int) : Srt kf [x] := List.pairwise_singleton _ _

theorem Blk.len {bs : Nat} {l s : List Int} (h : Blk kf bs l s) : s.length = l.length := by
  induction h with
  | last _ p _ => exact p.length_eq
  | more _ p _ _ ih => rw [List.length_append, List.length_append, p.length_eq, ih]
/-- The first block. -/
theorem Blk.first {bs : Nat} {l s : List Int} (h : Blk kf bs l s) (hl : bs ≤ l.length) : ∃ a sa r ys, l = a ++ r ∧ s = sa ++ ys ∧ a.length = bs ∧ sa.Perm a ∧ Srt kf sa ∧ Blk kf bs r ys := by
  cases h with
  | last hb p hs => exact ⟨l, s, [], [], (List.append_nil _).symm, (List.append_nil _).symm, by omega, p, hs, .last (Nat.zero_le _) (.refl _) .nil⟩
  | more ha p hs hr => exact ⟨_, _, _, _, rfl, rfl, ha, p, hs, hr⟩

theorem Cp.sub {a b a' b' : List Int} (h : ∀ x ∈ a, ∀ y ∈ b, Cp kf cf x y) (ha : ∀ x ∈ a', x ∈ a) (hb : ∀ x ∈ b', x ∈ b) : ∀ x ∈ a', ∀ y ∈ b', Cp kf cf x y := fun x hx y hy => h x (ha x hx) y (hb y hy)
end

/-! ### lists with a part exchanged -/
section
variable {α : Type}
end

/-! ### all sets of the cells of a set, by their sizes -/
end Go.Proofs.YtbmmcldbllhhhaaDoor

/- The library's stable sort: what it is given, compared by a function of the program, comes in order, and none is lost. -/
set_option maxRecDepth 20000
namespace Go.Proofs.YtbmmcldbllhhhaaDoor
open Go Go.Ip G

section
variable {Q : PV → PHeap → Prop}
theorem conv_iu (x : Int) : convP Tryd.prog 3 74 (.int .i64 x) = some (.int .u64 (IntKind.u64.wrap x)) := by kernel_rfl
end

variable (g : Nat → PV) (lf : Nat)

/-! ### parts that change places -/
end Go.Proofs.YtbmmcldbllhhhaaDoor

/- The library's stable sort: insertion into a block, two blocks merged, and blocks of all sizes. -/
set_option maxRecDepth 20000
namespace Go.Proofs.YtbmmcldbllhhhaaDoor
open Go Go.Ip G

section
variable {Q : PV → PHeap → Prop}
end
/-- A function that compares by a number, and changes nothing. -/
def CmpOk (g : Nat → PV) (lf : Nat) (f : FuncId) (ok : Int → Prop) (cf : Int → Nat) : Prop := ∀ N, 5 ≤ N → ∀ a b : Int, ok a → ok b → ∀ h, ∃ c : Int, CL g lf N f [.int .i64 a, .int .i64 b] h = some (.int .i64 c, h) ∧ (c < 0 ↔ cf a < cf b)

section
variable (g : Nat → PV) (lf : Nat) {f : FuncId} {ok : Int → Prop} {kf cf : Int → Nat} (hcmp : CmpOk g lf f ok cf) (hlf : 1000 < lf)
include hcmp hlf

end
end Go.Proofs.YtbmmcldbllhhhaaDoor

/- The library's stable sort: two blocks merged. -/
set_option maxRecDepth 20000
namespace Go.Proofs.YtbmmcldbllhhhaaDoor
open Go Go.Ip G

section
variable (g : Nat → PV) (lf : Nat) {f : FuncId} {ok : Int → Prop} {kf cf : Int → Nat} (hcmp : CmpOk g lf f ok cf) (hlf : 1000 < lf)
include hcmp hlf

end
end Go.Proofs.YtbmmcldbllhhhaaDoor

/- The program's chapter 3: MoveOk, Played, WinnerOf, WinningCells and LinePlayed compute what the model's do. -/
set_option maxRecDepth 20000
namespace Go.Proofs.YtbmmcldbllhhhaaDoor
open Go Go.Ip G

variable (g : Nat → PV) (lf n : Nat)

/-! ### moves -/
/-! ### who wins -/
/-! ### a line -/
/-- A list of integers at an object of its own. -/
def SlAt (i : Nat) (h : PHeap) (p : PV) (ys : List Int) : Prop := (p = .nilsl ∧ ys = []) ∨ (p = .sl i 0 ys.length ∧ At h i (ys.map (.int .i64)))
theorem SlAt.keep {i : Nat} {h h' : PHeap} {p : PV} {ys : List Int} (s : SlAt i h p ys) (k : Keep h.length h h') : SlAt i h' p ys := by
  rcases s with s | ⟨a, b⟩
  · exact .inl s
  · exact .inr ⟨a, b.keep k⟩
theorem SlAt.kb {i m : Nat} {h h' : PHeap} {p : PV} {ys : List Int} (s : SlAt i h p ys) (k : KB m h h') (hn : i ≠ m) : SlAt i h' p ys := by
  rcases s with s | ⟨a, b⟩
  · exact .inl s
  · exact .inr ⟨a, b.kb k hn⟩
theorem SlAt.own {i n : Nat} {h : PHeap} {p : PV} {ys : List Int} (s : SlAt i h p ys) (hn : n ≤ i) : OwnSl n h p ys := by
  rcases s with s | ⟨a, b⟩
  · exact .inl s
  · exact .inr ⟨i, hn, a, b⟩
end Go.Proofs.YtbmmcldbllhhhaaDoor

/- The laws of chapter 3 over what the program's functions are asked to compute: promises 16, 17, 18 and 21. -/
set_option maxRecDepth 20000
namespace Go.Proofs.YtbmmcldbllhhhaaDoor
open Go Go.Ip G

variable (g : Nat → PV) (lf n : Nat)

end Go.Proofs.YtbmmcldbllhhhaaDoor

/- The laws of chapter 3 over what the program's functions are asked to compute: promises 18, 19, 20 and 22. -/
set_option maxRecDepth 20000
namespace Go.Proofs.YtbmmcldbllhhhaaDoor
open Go Go.Ip G

theorem Fix.get {b : Nat} {h h' : PHeap} {p : PV} {xs : List Int} (s : Fix b h p xs) (k : Keep b h h') : IntSl .i64 h' p xs := s h' k
variable (g : Nat → PV) (lf n : Nat)

end Go.Proofs.YtbmmcldbllhhhaaDoor

/- The boards that the model draws for chapters 4 and 5, and the draws. -/
set_option maxRecDepth 20000
namespace Go.Proofs.YtbmmcldbllhhhaaDoor
open Go Go.Ip Go.RowKit G

variable (g : Nat → PV) (lf n : Nat)

end Go.Proofs.YtbmmcldbllhhhaaDoor

/- The laws of chapter 4 over what the program's functions are asked to compute. -/
set_option maxRecDepth 20000
namespace Go.Proofs.YtbmmcldbllhhhaaDoor
open Go Go.Ip G

variable (g : Nat → PV) (lf n : Nat)

/-! ### the exact laws -/
end Go.Proofs.YtbmmcldbllhhhaaDoor

/- The laws of chapter 5 over what the program's functions are asked to compute. -/
set_option maxRecDepth 20000
namespace Go.Proofs.YtbmmcldbllhhhaaDoor
open Go Go.Ip G

section
variable {R C : Nat} {xs : List Int} (hb : posB (R : Int) (C : Int) xs = true)
include hb
end

variable (g : Nat → PV) (lf n : Nat)

/-! ### the exact laws -/
end Go.Proofs.YtbmmcldbllhhhaaDoor

/- The program's chapter 5: all fillings of the free cells one after another, those that are won, those that a stone decides, and the cells that do not matter. -/
set_option maxRecDepth 20000
namespace Go.Proofs.YtbmmcldbllhhhaaDoor
open Go Go.Ip G

section
variable {Q : PV → PHeap → Prop} {f : PV → Res} {h : PHeap}
theorem wout {F : Int} (hf : W (f (.int .i64 (outI F))) Q) : W ((unP .xor (.int .i64 F)).bind f) Q := hf
theorem worI {a b : Int} (hf : W (f (.int .i64 (orI a b))) Q) : W ((binP Tryd.prog .or 3 (.int .i64 a) (.int .i64 b)).bind f) Q := wbd (by simp only [binP, binI, if_true, orI]) hf
theorem wandI {a b : Int} (hf : W (f (.int .i64 (andI a b))) Q) : W ((binP Tryd.prog .and 3 (.int .i64 a) (.int .i64 b)).bind f) Q := wbd (by simp only [binP, binI, if_true, andI]) hf
theorem waddW {a b : Int} (hf : W (f (.int .i64 (IntKind.i64.wrap (a + b)))) Q) : W ((binP Tryd.prog .add 3 (.int .i64 a) (.int .i64 b)).bind f) Q := wbd (by rw [bin_add]) hf
/-- A list of one number. -/
theorem wone {F : PV × PHeap → Res} {x : Int} (hf : ∀ p h', OwnSl h.length h' p [x] → Keep h.length h h' → W (F (p, h')) Q) : W ((buildSliceP Tryd.prog 31 1 [(0, .int .i64 x)] h).bind F) Q := by
  have hb : buildSliceP Tryd.prog 31 1 [(0, .int .i64 x)] h = some (.sl h.length 0 1, h ++ [.own 1 [.int .i64 x]]) := by
    simp [buildSliceP, tyElem, tySize, tyZero, repeatCells, fillP, PV.cells, setCells]
  exact wbd hb (hf _ _ (.inr ⟨h.length, Nat.le_refl _, rfl, by simp⟩) (Keep.append _ _ _ (Nat.le_refl _)))
end

theorem cellsN_nine (S : Nat) : (cellsN S).length ≤ 9 := by
  unfold cellsN
  have := List.length_filter_le S.testBit (List.range 9)
  rwa [List.length_range] at this
theorem partsN_most (S : Nat) : (partsN (cellsN S)).length ≤ 512 := by
  rw [partsN_length]
  exact Nat.pow_le_pow_right (by decide) (cellsN_nine S)

variable (g : Nat → PV) (lf n : Nat)

theorem partsOf_W {F : Nat} (hF : F < 2 ^ 9) (N : Nat) (hN : 1 ≤ N) (hlf : 1000 < lf) (h : PHeap) :
    W (CL g lf N fn_impl_partsOf [.int .i64 (F : Int)] h) fun q h' => OwnSl h.length h' q ((partsN (cellsN F)).map fun x : Nat => (x : Int)) ∧ Keep h.length h h' := by
  obtain ⟨n, rfl⟩ : ∃ n, N = n + 1 := ⟨N - 1, by omega⟩
  obtain ⟨l, hl, hc⟩ := chain_of hF
  have hmost := partsN_most F
  have hll : l.length < 512 := by rw [hl, List.length_cons] at hmost; omega
  rw [impl_partsOf.call_eq]
  unfold impl_partsOf.main
  simp only [env_lf, env_buildSlice]
  refine wone fun q1 h1 o1 k1 => ?_
  refine loopW (fun m s => ∃ (p : Nat) (ys l : List Nat) (q : PV) (h2 : PHeap), s = impl_partsOf.st0 (.int .i64 (F : Int)) q (.int .i64 (p : Int)) h2 ∧ m = l.length ∧ ys ++ l = partsN (cellsN F) ∧ chainB F p l = true ∧ OwnSl h.length h2 q (ys.map fun x : Nat => (x : Int)) ∧ Keep h.length h h2) ?_ lf l.length _ (by omega)
    ⟨0, [0], l, q1, h1, rfl, rfl, by rw [hl]; rfl, hc, o1, k1⟩
  rintro n1 m s ⟨p, ys, l, q, h2, rfl, rfl, hys, hc, o2, k2⟩ next
  rw [impl_partsOf.body0_eq]
  unfold impl_partsOf.body0
  simp only [env_buildSlice, env_bin, env_un, env_append]
  cases l with
  | nil =>
    rw [chainB, beq_iff_eq] at hc
    subst hc
    rw [List.append_nil] at hys
    repeat (first | with_reducible refine wF ?_ | with_reducible refine wneqF (by omega) ?_ | with_reducible refine wresO (by assumption) ?_ | rw [kLoop_exit] | rw [impl_partsOf.after0_se0_0_3_4_8])
    exact W.ret ⟨hys ▸ o2, k2⟩
  | cons x l =>
    rw [chainB, Bool.and_eq_true, Bool.and_eq_true, bne_iff_ne, beq_iff_eq] at hc
    obtain ⟨⟨hne, hnx⟩, hc⟩ := hc
    have hyl : ys.length ≤ 512 := by rw [← hys, List.length_append] at hmost; omega
    repeat (first | with_reducible refine wT ?_ | with_reducible refine wneqT (by omega) ?_)
    refine wout ?_
    refine worI ?_
    refine waddW ?_
    refine wandI ?_
    rw [show andI (IntKind.i64.wrap (orI (p : Int) (outI (F : Int)) + 1)) (F : Int) = (x : Int) from hnx]
    refine wap o2 k2.1 (by rw [List.length_map]; omega) fun p' h3 o3 k3 => ?_
    repeat (first | dsimp only)
    exact next _ _ (by rw [List.length_cons]; omega) ⟨x, ys ++ [x], l, p', h3, rfl, rfl, by rw [List.append_assoc]; exact hys, hc, by rw [List.map_append]; exact o3, k2.trans k3⟩

/-! ### fillings that are won -/
/-! ### fillings that a stone decides -/
/-! ### cells that do not matter -/
end Go.Proofs.YtbmmcldbllhhhaaDoor

/- The library's stable sort, whole; and all parts of a set by size. -/
set_option maxRecDepth 20000
namespace Go.Proofs.YtbmmcldbllhhhaaDoor
open Go Go.Ip G

section
variable (g : Nat → PV) (lf : Nat) {f : FuncId} {ok : Int → Prop} {kf cf : Int → Nat} (hcmp : CmpOk g lf f ok cf) (hlf : 1000 < lf)
include hcmp hlf

end

/-! ### how many cells a set has -/
theorem ones_all (g : Nat → PV) (lf n : Nat) (h : PHeap) : ((List.range 32).map fun a => (List.range 16).map fun b => bits_OnesCount64.main (env g lf n) (.int .u64 ((a * 16 + b : Nat) : Int)) h) = (List.range 32).map fun a => (List.range 16).map fun b => some (PV.int .i64 ((sizeN (a * 16 + b) : Nat) : Int), h) := by kernel_rfl
theorem ones_at (g : Nat → PV) (lf n : Nat) (h : PHeap) {x : Nat} (hx : x < 512) : bits_OnesCount64.main (env g lf n) (.int .u64 (x : Int)) h = some (.int .i64 ((sizeN x : Nat) : Int), h) := by
  have h1 := congrArg (fun l => (l[x / 16]?).bind fun r => r[x % 16]?) (ones_all g lf n h)
  simp only [List.getElem?_map, List.getElem?_range (show x / 16 < 32 by omega), List.getElem?_range (show x % 16 < 16 by omega), Option.map_some, Option.bind_some, Option.some.injEq] at h1
  rw [show x / 16 * 16 + x % 16 = x by omega] at h1
  exact h1
theorem countIn_W (g : Nat → PV) (lf N : Nat) (hN : 3 ≤ N) (h : PHeap) {x : Nat} (hx : x < 512) : CL g lf N fn_impl_countIn [.int .i64 (x : Int)] h = some (.int .i64 ((sizeN x : Nat) : Int), h) := by
  obtain ⟨n, rfl⟩ : ∃ n, N = n + 3 := ⟨N - 3, by omega⟩
  have e64 : CL g lf (n + 1) fn_bits_OnesCount64 [.int .u64 (x : Int)] h = some (.int .i64 ((sizeN x : Nat) : Int), h) := by
    rw [bits_OnesCount64.call_eq]; exact ones_at g lf n h hx
  have e1 : CL g lf (n + 2) fn_bits_OnesCount [.int .u64 (x : Int)] h = some (.int .i64 ((sizeN x : Nat) : Int), h) := by
    rw [bits_OnesCount.call_eq]
    unfold bits_OnesCount.main
    simp only [env_C]
    rw [e64]
    rfl
  rw [impl_countIn.call_eq]
  unfold impl_countIn.main
  simp only [env_C, env_conv]
  rw [conv_iu, show IntKind.u64.wrap (x : Int) = (x : Int) from by show (x : Int) % 18446744073709551616 = (x : Int); omega]
  simp only [Option.bind_some]
  rw [e1]
  rfl

end Go.Proofs.YtbmmcldbllhhhaaDoor

/- Nets once more: the fewest free wires that link, all sets of wires in order, and what stands in the game of wires. No program text. -/
set_option maxRecDepth 20000
namespace Go.Proofs.YtbmmcldbllhhhaaDoor
open Go Go.Ip G

/-! ### the fewest free wires -/
section
variable {ws : List (Nat × Nat)}
end

/-! ### all sets of wires, in their order -/
theorem allParts_all : ((List.range 9).all fun n => partsN (cellsN (2 ^ n - 1)) == List.range (2 ^ n)) = true := by kernel_rfl
theorem allParts {n : Nat} (h : n ≤ 8) : partsN (cellsN (2 ^ n - 1)) = List.range (2 ^ n) := by
  have := List.all_eq_true.1 allParts_all n (List.mem_range.2 (by omega))
  exact eq_of_beq this

/-! ### what stands -/
def StandsW (n f a b t : Nat) : Prop := gPos n a b ∧ f < 2 ^ 9 ∧ (∀ k, f.testBit k = true ↔ k < n ∧ (a ||| b).testBit k = false) ∧ (t = 1 ∨ t = 2)
theorem StandsW.put {n f a b t k : Nat} (h : StandsW n f a b t) (hk : f.testBit k = true) : StandsW n (without f k) (putA t k a) (putB t k b) (3 - t) := by
  obtain ⟨h1, h2, h3, h4⟩ := h
  obtain ⟨k1, k2⟩ := (h3 k).1 hk
  refine ⟨h1.put k1 k2, without_lt9 h2, fun j => ?_, by omega⟩
  rw [without_bit, put_bit, Bool.and_eq_true, h3, Bool.or_eq_false_iff]
  simp only [decide_eq_true_eq, decide_eq_false_iff_not]
  exact ⟨fun ⟨⟨a1, a2⟩, a3⟩ => ⟨a1, a2, a3⟩, fun ⟨a1, a2, a3⟩ => ⟨⟨a1, a2⟩, a3⟩⟩
theorem StandsW.lt9 {n f a b t : Nat} (h : StandsW n f a b t) (hn : n ≤ 8) : a < 2 ^ 9 ∧ b < 2 ^ 9 :=
  ⟨Nat.lt_of_lt_of_le h.1.1 (Nat.pow_le_pow_right (by decide) (by omega)), Nat.lt_of_lt_of_le h.1.2.1 (Nat.pow_le_pow_right (by decide) (by omega))⟩
theorem standsW_put_fr {n f a b t k : Nat} (h : StandsW n f a b t) (hk : f.testBit k = true) : frN n (putA t k a) (putB t k b) + 1 ≤ frN n a b := by
  obtain ⟨k1, k2⟩ := (h.2.2.1 k).1 hk; exact fr_put k1 k2
/-- The wires that are not the second one's. -/
theorem own_freeW {n f a b t : Nat} (h : StandsW n f a b t) : a ||| f = 2 ^ n - 1 - b := by
  obtain ⟨⟨h1, h2, h3⟩, _, h4, _⟩ := h
  apply Nat.eq_of_testBit_eq
  intro j
  rw [compl_bit h2, Nat.testBit_or, Bool.eq_iff_iff, Bool.or_eq_true, Bool.and_eq_true, decide_eq_true_eq, Bool.not_eq_true', h4, Nat.testBit_or, Bool.or_eq_false_iff]
  constructor
  · rintro (ha | ⟨hj, _, hb⟩)
    · refine ⟨bit_small h1 ha, ?_⟩
      cases e : b.testBit j with
      | false => rfl
      | true => exact (h3 j ha e).elim
    · exact ⟨hj, hb⟩
  · rintro ⟨hj, hb⟩
    cases e : a.testBit j with
    | true => exact .inl rfl
    | false => exact .inr ⟨hj, rfl, hb⟩
theorem done_win {vs : List (Nat × Nat)} {a b t : Nat} : (doneN vs a b ≠ 0 → gWin vs.length (linkW vs) (cutW vs) a b t = doneN vs a b ∧ (doneN vs a b = 1 ∨ doneN vs a b = 2)) ∧
    (doneN vs a b = 0 → gWin vs.length (linkW vs) (cutW vs) a b t = if gMove vs.length (linkW vs) (cutW vs) a b t = true then t else 3 - t) := by
  rw [gWin_eq]
  unfold doneN
  by_cases h1 : linkW vs a = true
  · rw [if_pos h1, if_pos h1]
    exact ⟨fun _ => ⟨rfl, .inl rfl⟩, fun h => by cases h⟩
  · rw [if_neg h1, if_neg h1]
    by_cases h2 : cutW vs b = true
    · rw [if_pos h2, if_pos h2]
      exact ⟨fun _ => ⟨rfl, .inr rfl⟩, fun h => by cases h⟩
    · rw [if_neg h2, if_neg h2]
      exact ⟨fun h => (h rfl).elim, fun _ => rfl⟩
theorem stands_owners {nodes : Int} {ws : List (Int × Int)} {os : List Int} (hb : ownersB nodes ws os = true) (h8 : ws.length ≤ 8) {T : Nat} (hT : T = 1 ∨ T = 2) : StandsW ws.length (setL os 0) (setL os 1) (setL os 2) T := by
  unfold ownersB at hb
  simp only [Bool.and_eq_true, decide_eq_true_eq] at hb
  obtain ⟨h1, _, h3⟩ := hb
  have hp : gPos ws.length (setL os 1) (setL os 2) := by
    refine ⟨setL_lt 1 (by omega), setL_lt 2 (by omega), fun j h1 h2 => ?_⟩
    rw [setL_bit] at h1 h2
    rw [h1] at h2
    exact absurd (Option.some.inj h2) (by decide)
  refine ⟨hp, setL_lt 0 (by omega), fun k => ?_, hT⟩
  rw [Nat.testBit_or, Bool.or_eq_false_iff, setL_bit]
  constructor
  · intro hk
    have hkl := (List.getElem?_eq_some_iff.1 hk).1
    refine ⟨by omega, ?_, ?_⟩
    · cases e : (setL os 1).testBit k with
      | false => rfl
      | true => rw [setL_bit, hk] at e; exact absurd (Option.some.inj e) (by decide)
    · cases e : (setL os 2).testBit k with
      | false => rfl
      | true => rw [setL_bit, hk] at e; exact absurd (Option.some.inj e) (by decide)
  · rintro ⟨hk, e1, e2⟩
    have hk' : k < os.length := by omega
    have hc := List.all_eq_true.1 h1 _ (List.getElem_mem hk')
    unfold contentB at hc
    have hc := of_decide_eq_true hc
    rw [List.getElem?_eq_getElem hk']
    have n1 : os[k] ≠ 1 := fun e => by
      have : (setL os 1).testBit k = true := setL_bit.2 (by rw [List.getElem?_eq_getElem hk', e])
      rw [e1] at this; cases this
    have n2 : os[k] ≠ 2 := fun e => by
      have : (setL os 2).testBit k = true := setL_bit.2 (by rw [List.getElem?_eq_getElem hk', e])
      rw [e2] at this; cases this
    congr 1; omega

end Go.Proofs.YtbmmcldbllhhhaaDoor

/- What the program's functions on nets and owners compute: those that ask no table. -/
set_option maxRecDepth 20000
namespace Go.Proofs.YtbmmcldbllhhhaaDoor
open Go Go.Ip G

variable (g : Nat → PV) (lf n : Nat)

theorem nodeOk_W (N : Nat) (hN : 1 ≤ N) (h : PHeap) (nodes x : Int) : CL g lf N fn_impl_nodeOk [.int .i64 nodes, .int .i64 x] h = some (.bool (decide (0 ≤ x ∧ x < nodes)), h) := by
  obtain ⟨n, rfl⟩ : ∃ n, N = n + 1 := ⟨N - 1, by omega⟩
  have : W (CL g lf (n + 1) fn_impl_nodeOk [.int .i64 nodes, .int .i64 x] h) fun v h' => v = .bool (decide (0 ≤ x ∧ x < nodes)) ∧ h' = h := by
    rw [impl_nodeOk.call_eq]
    unfold impl_nodeOk.main
    simp only [env_pick, env_bin]
    by_cases c1 : 0 ≤ x
    · by_cases c2 : x < nodes
      · repeat (first | with_reducible refine wg1 rfl ?_ | with_reducible refine wpT ?_ | with_reducible refine wpv ?_ | with_reducible refine wsm ?_ | with_reducible refine wrB ?_ | with_reducible refine wlssT (by omega) ?_ | with_reducible refine wgeqT (by omega) ?_ | dsimp only)
        exact W.ret ⟨by rw [decide_eq_true ⟨c1, c2⟩], rfl⟩
      · repeat (first | with_reducible refine wg1 rfl ?_ | with_reducible refine wpT ?_ | with_reducible refine wpv ?_ | with_reducible refine wsm ?_ | with_reducible refine wrB ?_ | with_reducible refine wlssF (by omega) ?_ | with_reducible refine wgeqT (by omega) ?_ | dsimp only)
        exact W.ret ⟨by rw [decide_eq_false (fun hh => c2 hh.2)], rfl⟩
    · repeat (first | with_reducible refine wg0 rfl ?_ | with_reducible refine wpF ?_ | with_reducible refine wsm ?_ | with_reducible refine wrB ?_ | with_reducible refine wgeqF (by omega) ?_ | dsimp only)
      exact W.ret ⟨by rw [decide_eq_false (fun hh => c1 hh.1)], rfl⟩
  obtain ⟨_, _, e, rfl, rfl⟩ := this
  exact e

theorem wiresOk_W {ws : List (Int × Int)} {p : PV} {h : PHeap} (N : Nat) (hN : 3 ≤ N) (nodes : Int) (hp : WSl h p ws) (hl : ws.length ≤ 2 ^ 35) (hf : ws.length < lf) :
    ∃ h', CL g lf N fn_impl_WiresOk [.int .i64 nodes, p] h = some (.bool (wiresB nodes ws), h') ∧ Keep h.length h h' := by
  obtain ⟨n, rfl⟩ : ∃ n, N = n + 1 := ⟨N - 1, by omega⟩
  have hlen0 := hp.len
  have : W (CL g lf (n + 1) fn_impl_WiresOk [.int .i64 nodes, p] h) fun v h' => v = .bool (wiresB nodes ws) ∧ Keep h.length h h' := by
    rw [impl_WiresOk.call_eq]
    unfold impl_WiresOk.main
    simp only [env_lf, env_pick, env_bin, env_len]
    by_cases n1 : nodes < 2
    · repeat (first | with_reducible refine wT ?_ | with_reducible refine wg0 rfl ?_ | with_reducible refine wpT ?_ | with_reducible refine wsm ?_ | with_reducible refine wrB ?_ | with_reducible refine wlssT (by omega) ?_ | dsimp only)
      exact W.ret ⟨by unfold wiresB; rw [decide_eq_false (show ¬ (2 ≤ nodes ∧ nodes ≤ 5) by omega), Bool.false_and, Bool.and_false], Keep.refl _ _⟩
    by_cases n2 : 5 < nodes
    · repeat (first | with_reducible refine wT ?_ | with_reducible refine wg1 rfl ?_ | with_reducible refine wg0 rfl ?_ | with_reducible refine wpT ?_ | with_reducible refine wpF ?_ | with_reducible refine wpv ?_ | with_reducible refine wsm ?_ | with_reducible refine wrB ?_ | with_reducible refine wlssF (by omega) ?_ | with_reducible refine wgtrT (by omega) ?_ | dsimp only)
      exact W.ret ⟨by unfold wiresB; rw [decide_eq_false (show ¬ (2 ≤ nodes ∧ nodes ≤ 5) by omega), Bool.false_and, Bool.and_false], Keep.refl _ _⟩
    by_cases n3 : 8 < ws.length
    · repeat (first | with_reducible refine wT ?_ | with_reducible refine wg1 rfl ?_ | with_reducible refine wpF ?_ | with_reducible refine wpv ?_ | with_reducible refine wsm ?_ | with_reducible refine wrB ?_ | with_reducible refine wbd (by assumption) ?_ | with_reducible refine wlssF (by omega) ?_ | with_reducible refine wgtrT (by omega) ?_ | with_reducible refine wgtrF (by omega) ?_ | dsimp only)
      exact W.ret ⟨by unfold wiresB; rw [decide_eq_false (show ¬ ws.length ≤ 8 by omega), Bool.and_false, Bool.and_false], Keep.refl _ _⟩
    repeat (first | with_reducible refine wF ?_ | with_reducible refine wg1 rfl ?_ | with_reducible refine wpF ?_ | with_reducible refine wpv ?_ | with_reducible refine wsm ?_ | with_reducible refine wbd (by assumption) ?_ | with_reducible refine wlssF (by omega) ?_ | with_reducible refine wgtrF (by omega) ?_ | dsimp only)
    refine loopW (fun m s => ∃ (k : Nat) (h1 : PHeap), s = impl_WiresOk.st0 (.int .i64 nodes) p (.int .i64 (ws.length : Int)) (.int .i64 (k : Int)) h1 ∧ k + m = ws.length ∧ (ws.all (goodW nodes) = (ws.drop k).all (goodW nodes)) ∧ Keep h.length h h1) ?_ lf ws.length _ hf ⟨0, h, rfl, by omega, rfl, Keep.refl _ _⟩
    rintro n1' m s ⟨k, h1, rfl, hkm, hall, k1⟩ next
    have hp1 := hp.keep k1
    rw [impl_WiresOk.body0_eq]
    unfold impl_WiresOk.body0
    simp only [env_C, env_pick, env_alloc, env_load, env_store, env_bin, env_un, env_fieldAddr, env_indexAddr]
    cases m with
    | zero =>
      rw [List.drop_eq_nil_of_le (by omega), List.all_nil] at hall
      repeat (first | with_reducible refine wF ?_ | with_reducible refine wrB ?_ | with_reducible refine wlssF (by omega) ?_ | rw [kLoop_exit] | rw [impl_WiresOk.after0_se0_0_18_19_20_21])
      exact W.ret ⟨by unfold wiresB; rw [hall, decide_eq_true (show 2 ≤ nodes ∧ nodes ≤ 5 by omega), decide_eq_true (show ws.length ≤ 8 by omega)]; rfl, k1⟩
    | succ m =>
      have hk : k < ws.length := by omega
      have hdx : ws.drop k = ws[k] :: ws.drop (k + 1) := List.drop_eq_getElem_cons hk
      obtain ⟨id, off, e0, l0, _, _⟩ := hp1.at hk
      obtain ⟨⟨A, B⟩, hw⟩ : ∃ w, w = ws[k] := ⟨_, rfl⟩
      rw [← hw] at l0 hdx
      rw [hdx, List.all_cons] at hall
      repeat (first | with_reducible refine wT ?_ | with_reducible refine wbd (by assumption) ?_ | (refine walW fun h2 i2 a2 k2 ii2 => ?_) | (refine wstW a2 ii2 fun h3 a3 k3 hl3 => ?_) | with_reducible refine wlssT (by omega) ?_ | dsimp only)
      have l3 := a3.l0
      have l4 := a3.l1
      have K3 : Keep h.length h h3 := k1.trans ((k2.trans k3).mono k1.1)
      have e1 := nodeOk_W g lf n (by omega) h3 nodes A
      have e2 := nodeOk_W g lf n (by omega) h3 nodes B
      by_cases c5 : A = B
      · rw [show goodW nodes (A, B) = false from decide_eq_false (fun hh => hh.2.2.2.2 c5), Bool.false_and] at hall
        repeat (first | with_reducible refine wT ?_ | with_reducible refine wg0 rfl ?_ | with_reducible refine wpT ?_ | with_reducible refine wsm ?_ | with_reducible refine wrB ?_ | with_reducible refine wbd (by assumption) ?_ | (with_reducible refine wfa0 ?_) | (with_reducible refine wfa1 ?_) | with_reducible refine weqlT (by omega) ?_ | rw [kLoop_ret] | rw [impl_WiresOk.K0_ret] | rw [impl_WiresOk.top_sr_4] | dsimp only)
        exact W.ret ⟨by unfold wiresB; rw [hall]; rfl, K3⟩
      · cases d1 : decide (0 ≤ A ∧ A < nodes) with
        | false =>
          rw [d1] at e1
          have d1 := of_decide_eq_false d1
          rw [show goodW nodes (A, B) = false from decide_eq_false (fun hh => d1 ⟨hh.1, hh.2.1⟩), Bool.false_and] at hall
          repeat (first | with_reducible refine wT ?_ | with_reducible refine wg1 rfl ?_ | with_reducible refine wg0 rfl ?_ | with_reducible refine wpT ?_ | with_reducible refine wpF ?_ | with_reducible refine wnF ?_ | with_reducible refine wpv ?_ | with_reducible refine wsm ?_ | with_reducible refine wrB ?_ | with_reducible refine wbd (by assumption) ?_ | (with_reducible refine wfa0 ?_) | (with_reducible refine wfa1 ?_) | with_reducible refine weqlF (by omega) ?_ | rw [kLoop_ret] | rw [impl_WiresOk.K0_ret] | rw [impl_WiresOk.top_sr_4] | dsimp only)
          exact W.ret ⟨by unfold wiresB; rw [hall]; rfl, K3⟩
        | true =>
          rw [d1] at e1
          have d1 := of_decide_eq_true d1
          cases d2 : decide (0 ≤ B ∧ B < nodes) with
          | false =>
            rw [d2] at e2
            have d2 := of_decide_eq_false d2
            rw [show goodW nodes (A, B) = false from decide_eq_false (fun hh => d2 ⟨hh.2.2.1, hh.2.2.2.1⟩), Bool.false_and] at hall
            repeat (first | with_reducible refine wT ?_ | with_reducible refine wg1 rfl ?_ | with_reducible refine wpF ?_ | with_reducible refine wnT ?_ | with_reducible refine wnF ?_ | with_reducible refine wpv ?_ | with_reducible refine wsm ?_ | with_reducible refine wrB ?_ | with_reducible refine wbd (by assumption) ?_ | (with_reducible refine wfa0 ?_) | (with_reducible refine wfa1 ?_) | with_reducible refine weqlF (by omega) ?_ | rw [kLoop_ret] | rw [impl_WiresOk.K0_ret] | rw [impl_WiresOk.top_sr_4] | dsimp only)
            exact W.ret ⟨by unfold wiresB; rw [hall]; rfl, K3⟩
          | true =>
            rw [d2] at e2
            have d2 := of_decide_eq_true d2
            have hg : goodW nodes (A, B) = true := decide_eq_true ⟨d1.1, d1.2, d2.1, d2.2, c5⟩
            repeat (first | with_reducible refine wF ?_ | with_reducible refine wg1 rfl ?_ | with_reducible refine wpF ?_ | with_reducible refine wnT ?_ | with_reducible refine wpv ?_ | with_reducible refine wsm ?_ | with_reducible refine wbd (by assumption) ?_ | (with_reducible refine wfa0 ?_) | (with_reducible refine wfa1 ?_) | with_reducible refine wadd1 (by omega) ?_ | with_reducible refine weqlF (by omega) ?_ | dsimp only)
            exact next _ _ (Nat.lt_succ_self m) ⟨k + 1, h3, rfl, by omega, by rw [hall, hg, Bool.true_and], K3⟩
  obtain ⟨_, h', e, rfl, k⟩ := this
  exact ⟨h', e, k⟩

theorem ownersOk_W {ws : List (Int × Int)} {os : List Int} {p po : PV} {h : PHeap} (N : Nat) (hN : 4 ≤ N) (nodes : Int) (hp : WSl h p ws) (hl : ws.length ≤ 2 ^ 35) (hf : ws.length < lf) (ho : IntSl .i64 h po os) (hol : os.length ≤ 2 ^ 35) (hof : os.length < lf) :
    ∃ h', CL g lf N fn_impl_OwnersOk [.int .i64 nodes, p, po] h = some (.bool (ownersB nodes ws os), h') ∧ Keep h.length h h' := by
  obtain ⟨n, rfl⟩ : ∃ n, N = n + 1 := ⟨N - 1, by omega⟩
  obtain ⟨h1, e1, k1⟩ := wiresOk_W g lf n (by omega) nodes hp hl hf
  have hp1 := (hp.keep k1).len
  have ho1 := ho.keep k1
  have hlo := ho1.len'
  have : W (CL g lf (n + 1) fn_impl_OwnersOk [.int .i64 nodes, p, po] h) fun v h' => v = .bool (ownersB nodes ws os) ∧ Keep h.length h h' := by
    rw [impl_OwnersOk.call_eq]
    unfold impl_OwnersOk.main
    simp only [env_C, env_lf, env_pick, env_bin, env_un, env_len]
    cases hb : wiresB nodes ws with
    | false =>
      rw [hb] at e1
      repeat (first | with_reducible refine wT ?_ | with_reducible refine wg0 rfl ?_ | with_reducible refine wpT ?_ | with_reducible refine wnF ?_ | with_reducible refine wsm ?_ | with_reducible refine wrB ?_ | with_reducible refine wbd (by assumption) ?_ | dsimp only)
      exact W.ret ⟨by unfold ownersB; rw [hb, Bool.false_and, Bool.and_false], k1⟩
    | true =>
      rw [hb] at e1
      by_cases he : os.length = ws.length
      case neg =>
        repeat (first | with_reducible refine wT ?_ | with_reducible refine wg1 rfl ?_ | with_reducible refine wpF ?_ | with_reducible refine wnT ?_ | with_reducible refine wpv ?_ | with_reducible refine wsm ?_ | with_reducible refine wrB ?_ | with_reducible refine wbd (by assumption) ?_ | with_reducible refine wneqT (by omega) ?_ | dsimp only)
        exact W.ret ⟨by unfold ownersB; rw [decide_eq_false he, Bool.and_false, Bool.and_false], k1⟩
      repeat (first | with_reducible refine wF ?_ | with_reducible refine wg1 rfl ?_ | with_reducible refine wpF ?_ | with_reducible refine wnT ?_ | with_reducible refine wpv ?_ | with_reducible refine wsm ?_ | with_reducible refine wbd (by assumption) ?_ | with_reducible refine wneqF (by omega) ?_ | dsimp only)
      refine loopW (fun m s => ∃ k : Nat, s = impl_OwnersOk.st0 po (.int .i64 (os.length : Int)) (.int .i64 (k : Int)) h1 ∧ k + m = os.length ∧ os.all contentB = (os.drop k).all contentB) ?_ lf os.length _ hof ⟨0, rfl, by omega, rfl⟩
      rintro n1 m s ⟨k, rfl, hkm, hall⟩ next
      rw [impl_OwnersOk.body0_eq]
      unfold impl_OwnersOk.body0
      simp only [env_C, env_load, env_bin, env_un, env_indexAddr]
      cases m with
      | zero =>
        rw [List.drop_eq_nil_of_le (by omega), List.all_nil] at hall
        repeat (first | with_reducible refine wF ?_ | with_reducible refine wrB ?_ | with_reducible refine wlssF (by omega) ?_ | rw [kLoop_exit] | rw [impl_OwnersOk.after0_se0_20_21_22_23])
        exact W.ret ⟨by unfold ownersB; rw [hall, hb, decide_eq_true he]; rfl, k1⟩
      | succ m =>
        have hk : k < os.length := by omega
        have hdx : os.drop k = os[k] :: os.drop (k + 1) := List.drop_eq_getElem_cons hk
        rw [hdx, List.all_cons] at hall
        obtain ⟨a, ea, la⟩ := ho1.at' hk
        obtain ⟨m', rfl⟩ : ∃ m', n = m' + 1 := ⟨n - 1, by omega⟩
        have hin := contentOk_calls g lf m' os[k] h1
        cases hc : contentB os[k] with
        | true =>
          rw [hc] at hin hall
          repeat (first | with_reducible refine wT ?_ | with_reducible refine wF ?_ | with_reducible refine wnT ?_ | with_reducible refine wbd (by assumption) ?_ | with_reducible refine wadd1 (by omega) ?_ | with_reducible refine wlssT (by omega) ?_ | dsimp only)
          exact next _ _ (Nat.lt_succ_self m) ⟨k + 1, rfl, by omega, by rw [hall, Bool.true_and]⟩
        | false =>
          rw [hc] at hin hall
          repeat (first | with_reducible refine wT ?_ | with_reducible refine wnF ?_ | with_reducible refine wrB ?_ | with_reducible refine wbd (by assumption) ?_ | with_reducible refine wlssT (by omega) ?_ | rw [kLoop_ret] | rw [impl_OwnersOk.K0_ret] | rw [impl_OwnersOk.top_sr_6] | dsimp only)
          exact W.ret ⟨by unfold ownersB; rw [hall]; rfl, k1⟩
  obtain ⟨_, h', e, rfl, k⟩ := this
  exact ⟨h', e, k⟩

end Go.Proofs.YtbmmcldbllhhhaaDoor

/- The program's nets: what is come to by wires, who has won, and the game with its map. -/
set_option maxRecDepth 20000
namespace Go.Proofs.YtbmmcldbllhhhaaDoor
open Go Go.Ip G

theorem TabT.t64 {g : Nat → PV} {h : PHeap} (t : TabT g h) : Tab64 g h := t
theorem TabOk.t64 {g : Nat → PV} {h : PHeap} (t : TabOk g h) : Tab64 g h := TabT.t64 t

theorem wia31 {Q : PV → PHeap → Prop} {id o : Nat} {F : PV → Res} (hf : W (F (.ptr id (o + 1))) Q) : W ((indexAddrP Tryd.prog 61 (.ptr id o) (.int .i64 1)).bind F) Q := wbd (ia3 id o 1 (by decide)) hf
theorem WSl.one {h : PHeap} {p : PV} {ws : List (Int × Int)} (s : WSl h p ws) : p.oneCell = true := by
  rcases s with ⟨rfl, _⟩ | ⟨id, off, rfl, _⟩ <;> rfl
theorem FixW.kb {b m : Nat} {h h' : PHeap} {p : PV} {ws : List (Int × Int)} (s : FixW b h p ws) (k : KB m h h') (hb : b ≤ m) (hm : m < h.length) : FixW b h' p ws := s.keep (k.keep hb (by omega))

variable (g : Nat → PV) (lf n : Nat)

/-! ### what is come to -/
theorem ends_meet {A B X : Nat} : ((1 <<< A ||| 1 <<< B) &&& X ≠ 0) ↔ (X.testBit A = true ∨ X.testBit B = true) := by
  constructor
  · intro h
    obtain ⟨j, hj⟩ := bit_of_ne h
    rw [Nat.testBit_and, Nat.testBit_or, one_bit, one_bit, Bool.and_eq_true, Bool.or_eq_true, decide_eq_true_eq, decide_eq_true_eq] at hj
    rcases hj with ⟨rfl | rfl, h2⟩
    · exact .inl h2
    · exact .inr h2
  · intro h e
    rcases h with h | h
    · have : ((1 <<< A ||| 1 <<< B) &&& X).testBit A = true := by rw [Nat.testBit_and, Nat.testBit_or, one_bit, h]; simp
      rw [e, Nat.zero_testBit] at this; cases this
    · have : ((1 <<< A ||| 1 <<< B) &&& X).testBit B = true := by rw [Nat.testBit_and, Nat.testBit_or, one_bit, one_bit, h]; simp
      rw [e, Nat.zero_testBit] at this; cases this
theorem pow58 {x m : Nat} (h : x < 2 ^ m) (hm : m ≤ 8) : x < 2 ^ 9 := Nat.lt_of_lt_of_le h (Nat.pow_le_pow_right (by decide) (by omega))

theorem beside_W {nodes : Nat} {vs : List (Nat × Nat)} (hn : NetN nodes vs) {p : PV} {h : PHeap} (hp : WSl h p (castW vs)) {S X : Nat} (hS : S < 2 ^ vs.length) (hX : X < 2 ^ 5) (hbig : Big g) (ht : Tab64 g h) (hlf : 1000 < lf) (N : Nat) (hN : 4 ≤ N) :
    W (CL g lf N fn_impl_nodesBeside [p, .int .i64 (S : Int), .int .i64 (X : Int)] h) fun v h' => ∃ B : Nat, v = .int .i64 (B : Int) ∧ B < 2 ^ 5 ∧
      (∀ j, B.testBit j = true ↔ ∃ k w, S.testBit k = true ∧ vs[k]? = some w ∧ (X.testBit w.1 = true ∨ X.testBit w.2 = true) ∧ (j = w.1 ∨ j = w.2)) ∧ Keep h.length h h' := by
  obtain ⟨n, rfl⟩ : ∃ n, N = n + 1 := ⟨N - 1, by omega⟩
  have h8 := hn.2.2.1
  have hS9 := pow58 hS h8
  have hnn := hn.2.1
  rw [impl_nodesBeside.call_eq]
  unfold impl_nodesBeside.main
  simp only [env_lf]
  refine loopW (fun m' st => ∃ (B r : Nat) (h1 : PHeap), st = impl_nodesBeside.st0 p (.int .i64 (X : Int)) (.int .i64 (B : Int)) (.int .i64 (r : Int)) h1 ∧ r < 2 ^ 9 ∧ B < 2 ^ 5 ∧ (∀ j, r.testBit j = true → S.testBit j = true) ∧
    (∀ j, B.testBit j = true ↔ ∃ k w, S.testBit k = true ∧ r.testBit k = false ∧ vs[k]? = some w ∧ (X.testBit w.1 = true ∨ X.testBit w.2 = true) ∧ (j = w.1 ∨ j = w.2)) ∧ Keep h.length h h1 ∧ m' = r) ?_ lf S _ (by omega)
    ⟨0, S, h, rfl, hS9, by decide, fun _ h => h, fun j => ⟨fun hh => (by rw [Nat.zero_testBit] at hh; cases hh), fun ⟨k, w, a, b, _⟩ => (by rw [a] at b; cases b)⟩, Keep.refl _ _, rfl⟩
  rintro n1 m1 st ⟨B, r, h1, rfl, hr, hB, hrS, hBb, k1, hm⟩ next
  rw [impl_nodesBeside.body0_eq]
  unfold impl_nodesBeside.body0
  simp only [env_C, env_alloc, env_load, env_store, env_bin, env_fieldAddr, env_indexAddr]
  by_cases e4 : r = 0
  · subst e4
    repeat (first | with_reducible refine wF ?_ | with_reducible refine wrI ?_ | with_reducible refine wneqF (by omega) ?_ | rw [kLoop_exit] | rw [impl_nodesBeside.after0_se0_0_2_7_8_13])
    refine W.ret ⟨B, rfl, hB, fun j => ?_, k1⟩
    rw [hBb]
    exact ⟨fun ⟨k, w, a, _, c⟩ => ⟨k, w, a, c⟩, fun ⟨k, w, a, c⟩ => ⟨k, w, a, Nat.zero_testBit _, c⟩⟩
  · have ht1 := ht.keep k1
    have el := leastIn_W g lf hr e4 hbig ht1 n (by omega)
    obtain ⟨c1, c2, c3, c4⟩ := low_ok hr e4
    obtain ⟨d1, d2⟩ := f_drop hr e4
    have hlt := without_less hr e4
    have hwl := without_lt9 (k := lowN r) hr
    obtain ⟨k, hk⟩ : ∃ k, k = lowN r := ⟨_, rfl⟩
    rw [← hk] at el c1 c2 d2 hlt hwl
    have hkS := hrS k c1
    have hkl : k < vs.length := bit_small hS hkS
    have hkc : k < (castW vs).length := by rw [castW_length]; exact hkl
    obtain ⟨id, off, e0, l0, _, _⟩ := (hp.keep k1).at hkc
    rw [castW_get hkc hkl] at l0
    dsimp only at l0
    have hgk : vs[k]? = some vs[k] := List.getElem?_eq_getElem hkl
    have hmem := hn.2.2.2 _ (List.mem_of_getElem? hgk)
    obtain ⟨⟨E, F⟩, hw⟩ : ∃ w, w = vs[k] := ⟨_, rfl⟩
    rw [← hw] at l0 hgk hmem
    dsimp only at l0 hmem
    have hE : E < 5 := by omega
    have hF : F < 5 := by omega
    have hE5 : 1 <<< E < 2 ^ 5 := by rw [Nat.one_shiftLeft]; exact Nat.pow_lt_pow_right (by decide) hE
    have hF5 : 1 <<< F < 2 ^ 5 := by rw [Nat.one_shiftLeft]; exact Nat.pow_lt_pow_right (by decide) hF
    have hEF : 1 <<< E ||| 1 <<< F < 2 ^ 5 := Nat.or_lt_two_pow hE5 hF5
    have hmeet := ends_meet (A := E) (B := F) (X := X)
    repeat (first | with_reducible refine wT ?_ | with_reducible refine wbd (by assumption) ?_ | (refine walW fun h2 i2 a2 k2 ii2 => ?_) | (refine wstW a2 ii2 fun h3 a3 k3 hl3 => ?_) | with_reducible refine wneqT (by omega) ?_ | dsimp only)
    have l3 := a3.l0
    have l4 := a3.l1
    have K3 : Keep h.length h h3 := k1.trans ((k2.trans k3).mono k1.1)
    have hrw : ∀ j, (without r k).testBit j = true → S.testBit j = true := fun j hj => by
      rw [without_bit, Bool.and_eq_true] at hj; exact hrS j hj.1
    obtain ⟨Z, hZ⟩ : ∃ Z, Z = 1 <<< E ||| 1 <<< F := ⟨_, rfl⟩
    have hZb : ∀ j, Z.testBit j = true ↔ (j = E ∨ j = F) := fun j => by rw [hZ, Nat.testBit_or, one_bit, one_bit, Bool.or_eq_true, decide_eq_true_eq, decide_eq_true_eq]
    repeat (first | with_reducible refine wbd (by assumption) ?_ | (with_reducible refine wfa0 ?_) | (with_reducible refine wfa1 ?_) | with_reducible refine wshl (by omega) ?_ | with_reducible refine wand (by omega) (by omega) ?_ | with_reducible refine wor (by omega) (by omega) ?_)
    rw [← hZ] at hEF hmeet ⊢
    obtain ⟨Y, hY⟩ : ∃ Y, Y = Z &&& X := ⟨_, rfl⟩
    skip
    rw [← hY] at hmeet ⊢
    refine wneq (fun e5 => ?_) (fun e5 => ?_)
    · have hm5 := hmeet.1 (by omega)
      have hBZ : B ||| Z < 2 ^ 5 := Nat.or_lt_two_pow hB hEF
      repeat (first | with_reducible refine wT ?_ | with_reducible refine wbd (by assumption) ?_ | with_reducible refine wor (by omega) (by omega) ?_)
      refine next _ _ (hm ▸ hlt) ⟨B ||| Z, _, h3, rfl, hwl, hBZ, hrw, fun j => ?_, K3, rfl⟩
      rw [Nat.testBit_or, Bool.or_eq_true, hBb, hZb]
      constructor
      · rintro (⟨i, w, x1, x2, x3⟩ | hj)
        · exact ⟨i, w, x1, by rw [without_bit, x2]; rfl, x3⟩
        · exact ⟨k, (E, F), hkS, by rw [without_bit]; simp, hgk, hm5, hj⟩
      · rintro ⟨i, w, x1, x2, x3, x4, x5⟩
        by_cases hik : i = k
        · subst hik
          rw [hgk] at x3
          cases x3
          exact .inr x5
        · rw [without_bit] at x2
          simp only [ne_eq, hik, not_false_eq_true, decide_true, Bool.and_true] at x2
          exact .inl ⟨i, w, x1, x2, x3, x4, x5⟩
    · have hm5 : ¬ (X.testBit E = true ∨ X.testBit F = true) := fun hh => hmeet.2 hh (by omega)
      repeat (first | with_reducible refine wF ?_ | with_reducible refine wbd (by assumption) ?_)
      refine next _ _ (hm ▸ hlt) ⟨B, _, h3, rfl, hwl, hB, hrw, fun j => ?_, K3, rfl⟩
      rw [hBb]
      constructor
      · rintro ⟨i, w, x1, x2, x3⟩
        exact ⟨i, w, x1, by rw [without_bit, x2]; rfl, x3⟩
      · rintro ⟨i, w, x1, x2, x3, x4, x5⟩
        by_cases hik : i = k
        · subst hik
          rw [hgk] at x3
          cases x3
          exact absurd x4 hm5
        · rw [without_bit] at x2
          simp only [ne_eq, hik, not_false_eq_true, decide_true, Bool.and_true] at x2
          exact ⟨i, w, x1, x2, x3, x4, x5⟩

theorem reached_W {nodes : Nat} {vs : List (Nat × Nat)} (hn : NetN nodes vs) {p : PV} {h : PHeap} (hp : WSl h p (castW vs)) {S : Nat} (hS : S < 2 ^ vs.length) (hbig : Big g) (ht : Tab64 g h) (hlf : 1000 < lf) (N : Nat) (hN : 5 ≤ N) :
    W (CL g lf N fn_impl_nodesReached [p, .int .i64 (S : Int), .int .i64 1] h) fun v h' => v = .int .i64 ((reachW vs S 0 : Nat) : Int) ∧ Keep h.length h h' := by
  obtain ⟨n, rfl⟩ : ∃ n, N = n + 1 := ⟨N - 1, by omega⟩
  have h0 : 0 < nodes := by have := hn.1; omega
  have hc1 : ∀ j, (1 : Nat).testBit j = true → Conn vs S 0 j := fun j hj => by
    have : (1 <<< 0).testBit j = true := hj
    rw [one_bit, decide_eq_true_eq] at this
    rw [this]; exact .refl
  rw [impl_nodesReached.call_eq]
  unfold impl_nodesReached.main
  simp only [env_lf]
  refine loopW (fun m' st => ∃ (X w : Nat) (h1 : PHeap), st = impl_nodesReached.st0 p (.int .i64 (S : Int)) (.int .i64 (X : Int)) (.int .i64 (w : Int)) h1 ∧ X < 2 ^ 5 ∧ (∀ j, w.testBit j = true → X.testBit j = true) ∧ X.testBit 0 = true ∧ (∀ j, X.testBit j = true → Conn vs S 0 j) ∧
    (∀ k u, S.testBit k = true → vs[k]? = some u → (X.testBit u.1 = true → w.testBit u.1 = false → X.testBit u.2 = true) ∧ (X.testBit u.2 = true → w.testBit u.2 = false → X.testBit u.1 = true)) ∧ Keep h.length h h1 ∧ m' = (32 - X) + (if w = 0 then 0 else 1)) ?_ lf 32 _ (by omega)
    ⟨1, 1, h, rfl, by decide, fun _ h => h, by decide, hc1, fun k u _ _ => ⟨fun a b => (by rw [a] at b; cases b), fun a b => (by rw [a] at b; cases b)⟩, Keep.refl _ _, rfl⟩
  rintro n1 m1 st ⟨X, w, h1, rfl, hX, hw, hX0, hXc, hcl, k1, hm⟩ next
  rw [impl_nodesReached.body0_eq]
  unfold impl_nodesReached.body0
  simp only [env_C, env_bin]
  by_cases e : w = 0
  · subst e
    have hXr : X = reachW vs S 0 := by
      apply Nat.eq_of_testBit_eq
      intro j
      rw [Bool.eq_iff_iff, reach_bit hn h0]
      refine ⟨hXc j, fun hc => ?_⟩
      induction hc with
      | refl => exact hX0
      | fwd _ hu hs e ih => subst e; exact (hcl _ _ hs hu).1 ih (Nat.zero_testBit _)
      | bwd _ hu hs e ih => subst e; exact (hcl _ _ hs hu).2 ih (Nat.zero_testBit _)
    repeat (first | with_reducible refine wF ?_ | with_reducible refine wrI ?_ | with_reducible refine wneqF (by omega) ?_ | rw [kLoop_exit] | rw [impl_nodesReached.after0_se0_0_1_2_7_10])
    exact W.ret ⟨by rw [hXr], k1⟩
  · have hw5 : w < 2 ^ 5 := Nat.lt_of_le_of_lt (sub_le hw) hX
    repeat (first | with_reducible refine wT ?_ | with_reducible refine wneqT (by omega) ?_)
    refine wcall (beside_W g lf hn (hp.keep k1) hS hw5 hbig (ht.keep k1) hlf n (by omega)) fun v h2 ⟨B, hv, hB, hBb, k2⟩ => ?_
    subst hv
    have hml : minusN B X < 2 ^ 5 := minusN_lt hB
    repeat (first | with_reducible refine wor (by omega) (by omega) ?_ | with_reducible refine wandNot (by omega) (by omega) ?_ | dsimp only)
    obtain ⟨w', hw'⟩ : ∃ w', w' = minusN B X := ⟨_, rfl⟩
    have hb : ∀ j, w'.testBit j = true ↔ B.testBit j = true ∧ X.testBit j = false := fun j => by
      rw [hw', minusN_bit, Bool.and_eq_true, Bool.not_eq_true']
    rw [← hw'] at hml ⊢
    have hor : X ||| w' < 2 ^ 5 := Nat.or_lt_two_pow hX hml
    have hle : X ≤ X ||| w' := Nat.left_le_or
    have hne : w' ≠ 0 → X ≠ X ||| w' := fun hz he => by
      obtain ⟨j, hj⟩ := bit_of_ne hz
      have h1 := ((hb j).1 hj).2
      rw [he, Nat.testBit_or, hj, Bool.or_true] at h1; cases h1
    have inX : ∀ j, B.testBit j = true → (X ||| w').testBit j = true := fun j hj => by
      rw [Nat.testBit_or]
      cases e2 : X.testBit j with
      | true => rfl
      | false => rw [(hb j).2 ⟨hj, e2⟩]; rfl
    refine next _ _ ?_ ⟨X ||| w', w', h2, rfl, hor, fun j hj => by rw [Nat.testBit_or, hj, Bool.or_true], by rw [Nat.testBit_or, hX0]; rfl, fun j hj => ?_, fun k u hs hu => ?_, k1.trans (k2.mono k1.1), rfl⟩
    · rw [hm, if_neg e]
      by_cases e' : w' = 0
      · rw [if_pos e']; omega
      · rw [if_neg e']; have := hne e'; omega
    · rw [Nat.testBit_or, Bool.or_eq_true] at hj
      rcases hj with hj | hj
      · exact hXc j hj
      · obtain ⟨k, u, x1, x2, x3, x4⟩ := (hBb j).1 ((hb j).1 hj).1
        rcases x3 with x3 | x3
        · have hc := hXc _ (hw _ x3)
          rcases x4 with rfl | rfl
          · exact hc
          · exact .fwd hc x2 x1 rfl
        · have hc := hXc _ (hw _ x3)
          rcases x4 with rfl | rfl
          · exact .bwd hc x2 x1 rfl
          · exact hc
    · constructor
      · intro y1 y2
        rw [Nat.testBit_or, y2, Bool.or_false] at y1
        cases e3 : w.testBit u.1 with
        | true => exact inX _ ((hBb _).2 ⟨k, u, hs, hu, .inl e3, .inr rfl⟩)
        | false => rw [Nat.testBit_or, (hcl k u hs hu).1 y1 e3]; rfl
      · intro y1 y2
        rw [Nat.testBit_or, y2, Bool.or_false] at y1
        cases e3 : w.testBit u.2 with
        | true => exact inX _ ((hBb _).2 ⟨k, u, hs, hu, .inr e3, .inl rfl⟩)
        | false => rw [Nat.testBit_or, (hcl k u hs hu).2 y1 e3]; rfl

theorem and_two (x : Nat) : x &&& 2 = 0 ↔ x.testBit 1 = false := by
  constructor
  · intro h
    have : (x &&& 2).testBit 1 = false := by rw [h]; rfl
    rw [Nat.testBit_and, show (2 : Nat).testBit 1 = true by decide, Bool.and_true] at this
    exact this
  · intro h
    apply Nat.eq_of_testBit_eq
    intro j
    rw [Nat.testBit_and, Nat.zero_testBit]
    have h2 : (2 : Nat).testBit j = decide (j = 1) := one_bit 1 j
    rw [h2]
    by_cases hj : j = 1
    · subst hj; rw [h]; rfl
    · simp [hj]
theorem linked_W {nodes : Nat} {vs : List (Nat × Nat)} (hn : NetN nodes vs) {p : PV} {h : PHeap} (hp : WSl h p (castW vs)) {S : Nat} (hS : S < 2 ^ vs.length) (hbig : Big g) (ht : Tab64 g h) (hlf : 1000 < lf) (N : Nat) (hN : 6 ≤ N) :
    ∃ h', CL g lf N fn_impl_linked [p, .int .i64 (S : Int)] h = some (.bool (linkW vs S), h') ∧ Keep h.length h h' := by
  obtain ⟨n, rfl⟩ : ∃ n, N = n + 1 := ⟨N - 1, by omega⟩
  have h0 : 0 < nodes := by have := hn.1; omega
  have hlt := reachW_lt hn (set := S) h0
  have h5 : reachW vs S 0 < 2 ^ 5 := Nat.lt_of_lt_of_le hlt (Nat.pow_le_pow_right (by decide) hn.2.1)
  have : W (CL g lf (n + 1) fn_impl_linked [p, .int .i64 (S : Int)] h) fun v h' => v = .bool (linkW vs S) ∧ Keep h.length h h' := by
    rw [impl_linked.call_eq]
    unfold impl_linked.main
    simp only [env_C, env_bin]
    refine wcall (reached_W g lf hn hp hS hbig ht hlf n (by omega)) fun v h1 ⟨hv, k1⟩ => ?_
    subst hv
    have hz := and_two (reachW vs S 0)
    unfold linkW
    obtain ⟨X, hX⟩ : ∃ X, X = reachW vs S 0 := ⟨_, rfl⟩
    rw [← hX] at hz h5 ⊢
    dsimp only
    refine wand (x := X) (y := 2) (by omega) (by decide) ?_
    cases hb : X.testBit 1 with
    | true =>
      have : ¬ X &&& 2 = 0 := fun hh => by rw [hz, hb] at hh; cases hh
      obtain ⟨Y, hY⟩ : ∃ Y, Y = X &&& 2 := ⟨_, rfl⟩
      rw [← hY] at this ⊢
      repeat (first | with_reducible refine wrB ?_ | with_reducible refine wneqT (by omega) ?_)
      exact W.ret ⟨rfl, k1⟩
    | false =>
      have := hz.2 hb
      obtain ⟨Y, hY⟩ : ∃ Y, Y = X &&& 2 := ⟨_, rfl⟩
      rw [← hY] at this ⊢
      repeat (first | with_reducible refine wrB ?_ | with_reducible refine wneqF (by omega) ?_)
      exact W.ret ⟨rfl, k1⟩
  obtain ⟨_, h', e, rfl, k⟩ := this
  exact ⟨h', e, k⟩

theorem wonBy_W {nodes : Nat} {vs : List (Nat × Nat)} (hn : NetN nodes vs) {p : PV} {h : PHeap} (hp : WSl h p (castW vs)) {f a b t : Nat} (hst : StandsW vs.length f a b t) (hbig : Big g) (ht : Tab64 g h) (hlf : 1000 < lf) (N : Nat) (hN : 7 ≤ N) :
    ∃ h', CL g lf N fn_impl_wonBy [p, .int .i64 (a : Int), .int .i64 (f : Int)] h = some (.int .i64 ((doneN vs a b : Nat) : Int), h') ∧ Keep h.length h h' := by
  obtain ⟨n, rfl⟩ : ∃ n, N = n + 1 := ⟨N - 1, by omega⟩
  have h8 := hn.2.2.1
  have hof := own_freeW hst
  have hb2 := hst.1.2.1
  have ha9 := pow58 hst.1.1 h8
  have hf9 := hst.2.1
  have h22 := Nat.two_pow_pos vs.length
  obtain ⟨h1, e1, k1⟩ := linked_W g lf hn hp hst.1.1 hbig ht hlf n (by omega)
  obtain ⟨h2, e2, k2⟩ := linked_W g lf hn (hp.keep k1) (show a ||| f < 2 ^ vs.length by rw [hof]; omega) hbig (ht.keep k1) hlf n (by omega)
  have : W (CL g lf (n + 1) fn_impl_wonBy [p, .int .i64 (a : Int), .int .i64 (f : Int)] h) fun v h' => v = .int .i64 ((doneN vs a b : Nat) : Int) ∧ Keep h.length h h' := by
    unfold doneN cutW
    rw [← hof]
    rw [impl_wonBy.call_eq]
    unfold impl_wonBy.main
    simp only [env_C, env_bin, env_un]
    cases hl : linkW vs a with
    | true =>
      rw [hl] at e1
      repeat (first | with_reducible refine wT ?_ | with_reducible refine wrI ?_ | with_reducible refine wbd (by assumption) ?_ | dsimp only | simp only [env_C, env_Y, env_g, env_lf, env_pick, env_alloc, env_box, env_build, env_buildSlice, env_load, env_store, env_ptr, env_bin, env_un, env_conv, env_make, env_slice, env_fieldAddr, env_field, env_indexAddr, env_index, env_extract, env_len, env_append, env_max, env_min, env_makeMap, env_lookup, env_update, env_clos, env_bstr])
      exact W.ret ⟨rfl, k1⟩
    | false =>
      rw [hl] at e1
      cases hl2 : linkW vs (a ||| f) with
      | true =>
        rw [hl2] at e2
        repeat (first | with_reducible refine wF ?_ | with_reducible refine wnT ?_ | with_reducible refine wrI ?_ | with_reducible refine wbd (by assumption) ?_ | with_reducible refine wor (by omega) (by omega) ?_ | dsimp only)
        exact W.ret ⟨rfl, k1.trans (k2.mono k1.1)⟩
      | false =>
        rw [hl2] at e2
        repeat (first | with_reducible refine wT ?_ | with_reducible refine wF ?_ | with_reducible refine wnF ?_ | with_reducible refine wrI ?_ | with_reducible refine wbd (by assumption) ?_ | with_reducible refine wor (by omega) (by omega) ?_ | dsimp only)
        exact W.ret ⟨rfl, k1.trans (k2.mono k1.1)⟩
  obtain ⟨_, h', e, rfl, k⟩ := this
  exact ⟨h', e, k⟩

/-! ### the game's map -/
/-- Every entry of the map tells who wins. -/
def GMemo (vs : List (Nat × Nat)) (es : List (PV × PV)) : Prop := ∀ p ∈ es, ∃ f a b t, StandsW vs.length f a b t ∧ p = (stP f a b t, .int .i64 (gWin vs.length (linkW vs) (cutW vs) a b t : Int))
theorem gmemo_find {vs : List (Nat × Nat)} {f a b t : Nat} : ∀ {es : List (PV × PV)} {v : PV}, GMemo vs es → findM es (stP f a b t) = some v → v = .int .i64 (gWin vs.length (linkW vs) (cutW vs) a b t : Int)
  | [], v, _, h => by cases h
  | p :: es, v, hm, h => by
    obtain ⟨f', a', b', t', _, rfl⟩ := hm p (by simp)
    unfold findM at h
    cases e : eqK (stP f' a' b' t') (stP f a b t) with
    | true =>
      rw [e] at h
      obtain ⟨_, rfl, rfl, rfl⟩ := eqK_st e
      cases h; rfl
    | false =>
      rw [e] at h
      exact gmemo_find (fun q hq => hm q (by simp [hq])) h
theorem gmemo_put {vs : List (Nat × Nat)} {f a b t : Nat} (hs : StandsW vs.length f a b t) : ∀ {es : List (PV × PV)}, GMemo vs es → GMemo vs (putM es (stP f a b t) (.int .i64 (gWin vs.length (linkW vs) (cutW vs) a b t : Int)))
  | [], _ => fun p hp => by
    simp only [putM, List.mem_singleton] at hp
    exact ⟨f, a, b, t, hs, hp⟩
  | p :: es, hm => by
    obtain ⟨f', a', b', t', hs', rfl⟩ := hm p (by simp)
    have hr : GMemo vs es := fun q hq => hm q (by simp [hq])
    unfold putM
    cases e : eqK (stP f' a' b' t') (stP f a b t) with
    | true =>
      obtain ⟨rfl, rfl, rfl, rfl⟩ := eqK_st e
      intro q hq
      rcases List.mem_cons.1 hq with rfl | hq
      · exact ⟨f', a', b', t', hs, rfl⟩
      · exact hr q hq
    | false =>
      intro q hq
      rcases List.mem_cons.1 hq with rfl | hq
      · exact ⟨f', a', b', t', hs', rfl⟩
      · exact gmemo_put hs hr q hq
theorem isKey_stW {n f a b t : Nat} (h8 : n ≤ 8) (hs : StandsW n f a b t) : isKeyP Tryd.prog 63 (stP f a b t) = true := by
  have l9 := hs.lt9 h8
  obtain ⟨hp, hf, _, ht⟩ := hs
  obtain ⟨D, hD⟩ : ∃ D, Tryd.prog.types.size + 1 = D + 3 := ⟨Tryd.prog.types.size - 2, by have := Nat.le_of_ble_eq_true tySz; omega⟩
  obtain ⟨L, hL⟩ := lits_st (D := D) hf l9.1 l9.2 (show t < 2 ^ 9 by omega)
  have hk : keyV (stP f a b t) = some (.agg #[.int .i64 (f : Int), .int .i64 (a : Int), .int .i64 (b : Int), .int .i64 (t : Int)]) := rfl
  have hfo : (Value.agg #[.int .i64 (f : Int), .int .i64 (a : Int), .int .i64 (b : Int), .int .i64 (t : Int)]).formed Tryd.prog 63 = true := by
    simp [Value.formed, stU, ce4]
  unfold isKeyP
  rw [hk]
  simp only [keyOf, stU, stK, hfo, Bool.and_self, if_true, hD, Value.cells, hL, Option.map_some, Option.isSome_some]
theorem gkeys_memo {vs : List (Nat × Nat)} {es : List (PV × PV)} (h8 : vs.length ≤ 8) (hm : GMemo vs es) {f a b t : Nat} (hs : StandsW vs.length f a b t) : keysB Tryd.prog 63 es (stP f a b t) = true := by
  unfold keysB
  rw [keyedSt, isKey_stW h8 hs, Bool.and_self, Bool.true_and, List.all_eq_true]
  intro p hp
  obtain ⟨f', a', b', t', hs', rfl⟩ := hm p hp
  exact isKey_stW h8 hs'
theorem glook_st {vs : List (Nat × Nat)} {m : Nat} {es : List (PV × PV)} {h : PHeap} (h8 : vs.length ≤ 8) (hM : MapAt h m es) (hm : GMemo vs es) {f a b t : Nat} (hs : StandsW vs.length f a b t) :
    lookupP Tryd.prog 56 (.mapv m) (stP f a b t) true h = some (foundP true (.int .i64 0) (findM es (stP f a b t))) := by
  have hk := gkeys_memo h8 hm hs
  have hma : mapAt h m = some es := by unfold mapAt; rw [show h[m]? = some (.mp es) from hM]
  simp only [lookupP, tyMp, hma, zeroInt, hk, cond_true]
theorem gupd_st {vs : List (Nat × Nat)} {m : Nat} {es : List (PV × PV)} {h : PHeap} (h8 : vs.length ≤ 8) (hM : MapAt h m es) (hm : GMemo vs es) {f a b t : Nat} (hs : StandsW vs.length f a b t) (x : Int) :
    updateP Tryd.prog 56 (.mapv m) (stP f a b t) (.int .i64 x) h = some (h.set m (.mp (putM es (stP f a b t) (.int .i64 x)))) := by
  have hk := gkeys_memo h8 hm hs
  have hma : mapAt h m = some es := by unfold mapAt; rw [show h[m]? = some (.mp es) from hM]
  simp only [updateP, tyMp, hma, hk, PV.oneCell, Bool.and_self, cond_true]

/-! ### the pair of wires and map -/
def gmC (p : PV) (m : Nat) : List PV := [p, .mapv m]
def gmP (p : PV) (m : Nat) : PV := .agg (gmC p m)
theorem tyGmA : isAggT Tryd.prog 58 = some true := by kernel_rfl
theorem tyGm2 : sizeT Tryd.prog 58 = some 2 := by kernel_rfl
theorem tyGmZ : zeroCellsT Tryd.prog 58 = some [.nilsl, .junk] := by kernel_rfl
theorem twsA : isAggT Tryd.prog 23 = some false := by kernel_rfl
theorem fG0 (id : Nat) : fieldAddrP Tryd.prog 58 (.ptr id 0) 0 = some (.ptr id 0) := by kernel_rfl
theorem fG1 (id : Nat) : fieldAddrP Tryd.prog 58 (.ptr id 0) 1 = some (.ptr id 1) := by kernel_rfl
theorem ldW1 {h : PHeap} {id : Nat} {p : PV} {l : List PV} (a : At h id (p :: l)) : loadP Tryd.prog 23 (.ptr id 0) h = some p := by
  simp [loadP, twsA, cellsAt, show h[id]? = some (.own 1 (p :: l)) from a, PObj.get]
theorem ldGW {h : PHeap} {id m : Nat} {p : PV} (_ : p.oneCell = true) (a : At h id (gmC p m)) : loadP Tryd.prog 23 (.ptr id 0) h = some p := ldW1 a
theorem ldGM {h : PHeap} {id m : Nat} {p : PV} (a : At h id (gmC p m)) : loadP Tryd.prog 56 (.ptr id 1) h = some (.mapv m) := ldM a rfl
theorem ldG {h : PHeap} {id m : Nat} {p : PV} (_ : p.oneCell = true) (a : At h id (gmC p m)) : loadP Tryd.prog 58 (.ptr id 0) h = some (gmP p m) := by
  simp [loadP, tyGmA, tyGm2, cellsAt, show h[id]? = some (.own 1 (gmC p m)) from a, PObj.get, gmC, gmP]
theorem boxG (h : PHeap) (m : Nat) {p : PV} (hone : p.oneCell = true) : boxP (gmP p m) h = some (.ptr h.length 0, h ++ [.own 1 (gmC p m)]) := by
  have : (PV.mapv m).oneCell = true := rfl
  simp [boxP, gmP, gmC, PV.cells, hone, this]
theorem plainG {p : PV} {m : Nat} (h : plain1 p p = true) : plainEq (gmP p m) (gmP p m) = true := by
  show (plain1 p p && (plain1 (.mapv m) (.mapv m) && true)) = true
  rw [h]; simp [plain1]
theorem bldG {h : PHeap} {p : PV} {ws : List (Int × Int)} (s : WSl h p ws) (m : Nat) : buildP Tryd.prog 58 [(0, p), (1, .mapv m)] = some (gmP p m) := by
  rcases s with ⟨rfl, _⟩ | ⟨id, off, rfl, _⟩
  · kernel_rfl
  · kernel_rfl
theorem alG (h : PHeap) : allocP Tryd.prog 58 h = some (.ptr h.length 0, h ++ [.own 1 [.nilsl, .junk]]) := by simp [allocP, tyGmZ]
theorem stG {h : PHeap} {id m : Nat} {p : PV} {l : List PV} (hone : p.oneCell = true) (o : At h id l) (hl : l.length = 2) : storeP Tryd.prog 58 (.ptr id 0) (gmP p m) h = some (h.set id (.own 1 (gmC p m))) := by
  have hm : (PV.mapv m).oneCell = true := rfl
  match l, hl with
  | [x, y], _ => simp [storeP, show h[id]? = some (.own 1 [x, y]) from o, gmP, gmC, PV.cells, hone, hm, tyGm2, setCells]
section
variable {Q : PV → PHeap → Prop} {h : PHeap} {id m : Nat} {p : PV}
theorem wboxG (hone : p.oneCell = true) {F : PV × PHeap → Res} (hf : ∀ h' id, At h' id (gmC p m) → Keep h.length h h' → h.length ≤ id → W (F (.ptr id 0, h')) Q) : W ((boxP (gmP p m) h).bind F) Q := wnew (boxG h m hone) hf
theorem walG {F : PV × PHeap → Res} (hf : ∀ h' id, At h' id [.nilsl, .junk] → Keep h.length h h' → h.length ≤ id → W (F (.ptr id 0, h')) Q) : W ((allocP Tryd.prog 58 h).bind F) Q := wnew (alG h) hf
theorem wstG {l : List PV} (hone : p.oneCell = true) (o : At h id l) (hl : l.length = 2) {F : PHeap → Res} (hf : ∀ h', At h' id (gmC p m) → KB id h h' → W (F h') Q) : W ((storeP Tryd.prog 58 (.ptr id 0) (gmP p m) h).bind F) Q := by
  rw [stG hone o hl]; exact hf _ (put_at o).1 (put_at o).2
end

/-- The map of a game, right in every entry. -/
def GSch (vs : List (Nat × Nat)) (h : PHeap) (m : Nat) : Prop := ∃ es, MapAt h m es ∧ GMemo vs es
theorem GSch.keep {vs : List (Nat × Nat)} {m : Nat} {h h' : PHeap} (hs : GSch vs h m) (k : Keep h.length h h') : GSch vs h' m := by
  obtain ⟨es, b, c⟩ := hs; exact ⟨es, b.keep k, c⟩
theorem GSch.ne {vs : List (Nat × Nat)} {m id : Nat} {h : PHeap} {l : List PV} (hs : GSch vs h m) (a : At h id l) : id ≠ m := by
  obtain ⟨es, b, _⟩ := hs; exact a.ne b
theorem GSch.lt {vs : List (Nat × Nat)} {m : Nat} {h : PHeap} (hs : GSch vs h m) : m < h.length := by
  obtain ⟨es, b, _⟩ := hs; exact b.lt
theorem Tab64.kbg {g : Nat → PV} {vs : List (Nat × Nat)} {m : Nat} {h h' : PHeap} (t : Tab64 g h) (hs : GSch vs h m) (k : KB m h h') : Tab64 g h' := fun id e => by
  have ho := t id e
  obtain ⟨es, b, _⟩ := hs
  rw [k.2 id (List.getElem?_eq_some_iff.1 ho).1 (fun e => by subst e; unfold MapAt at b; rw [ho] at b; cases b)]; exact ho

theorem newGame_W {ws : List (Int × Int)} {p : PV} {h : PHeap} (hp : WSl h p ws) (vs : List (Nat × Nat)) (N : Nat) (hN : 1 ≤ N) :
    W (CL g lf N fn_impl_newNetGame [p] h) fun v h' => ∃ m, v = gmP p m ∧ GSch vs h' m ∧ Keep h.length h h' ∧ h.length ≤ m := by
  obtain ⟨n, rfl⟩ : ∃ n, N = n + 1 := ⟨N - 1, by omega⟩
  have hone := hp.one
  rw [impl_newNetGame.call_eq]
  unfold impl_newNetGame.main
  simp only [env_alloc, env_build, env_store, env_makeMap]
  refine walG fun h1 i1 o1 k1 l1 => ?_
  dsimp only
  refine wmkM fun h2 m ma k2 lm => ?_
  dsimp only
  refine wbd (bldG hp m) ?_
  have o2 := o1.keep k2
  have hne := o2.ne ma
  refine wstG hone o2 rfl fun h3 o3 k3 => ?_
  refine wbd (ldG hone o3) ?_
  have lk1 := k1.1
  have lk2 := k2.1
  exact W.ret ⟨m, rfl, ⟨[], ma.kb k3 hne.symm, fun p hp => by cases hp⟩, (k1.trans (k2.mono k1.1)).kbs (Nat.le_refl _) k3 l1, by omega⟩

theorem won_W {nodes : Nat} {vs : List (Nat × Nat)} (hn : NetN nodes vs) {p : PV} {h : PHeap} (hp : WSl h p (castW vs)) {m f a b t : Nat} (hst : StandsW vs.length f a b t) (hbig : Big g) (ht : Tab64 g h) (hlf : 1000 < lf) (N : Nat) (hN : 8 ≤ N) :
    ∃ h', CL g lf N fn_impl_netGame_won [gmP p m, stP f a b t] h = some (.int .i64 ((doneN vs a b : Nat) : Int), h') ∧ Keep h.length h h' := by
  obtain ⟨n, rfl⟩ : ∃ n, N = n + 1 := ⟨N - 1, by omega⟩
  have hone := hp.one
  have hpl := hp.plain1
  have : W (CL g lf (n + 1) fn_impl_netGame_won [gmP p m, stP f a b t] h) fun v h' => v = .int .i64 ((doneN vs a b : Nat) : Int) ∧ Keep h.length h h' := by
    rw [impl_netGame_won.call_eq]
    unfold impl_netGame_won.main
    simp only [env_C, env_box, env_load, env_fieldAddr, env_indexAddr]
    refine wboxG hone fun h1 i1 o1 k1 l1 => ?_
    dsimp only
    refine wboxS fun h2 i2 o2 k2 l2 => ?_
    dsimp only
    have o1' := o1.keep k2
    obtain ⟨h3, e3, k3⟩ := wonBy_W g lf hn ((hp.keep k1).keep k2) hst hbig ((ht.keep k1).keep k2) hlf n (by omega)
    have kk := k1.trans (k2.mono k1.1)
    repeat (first | with_reducible refine wrI ?_ | with_reducible refine wbd (by assumption) ?_ | (with_reducible refine wbd (fSt0 _) ?_) | (with_reducible refine wbd (fG0 _) ?_) | (with_reducible refine wia30 ?_) | (with_reducible refine wia31 ?_) | (with_reducible refine wbd (ld1 (by assumption) rfl) ?_) | (with_reducible refine wbd (ldGW hone (by assumption)) ?_) | dsimp only)
    exact W.ret ⟨rfl, kk.trans (k3.mono kk.1)⟩
  obtain ⟨_, h', e, rfl, k⟩ := this
  exact ⟨h', e, k⟩

def GWinOk (vs : List (Nat × Nat)) (p : PV) (b0 m : Nat) (b : Nat) : Prop := ∀ (f a b' t N : Nat) (h : PHeap), frN vs.length a b' ≤ b → StandsW vs.length f a b' t → 3 * b + 12 ≤ N → GSch vs h m → Tab64 g h → FixW b0 h p (castW vs) →
  W (CL g lf N fn_impl_netGame_winner [gmP p m, stP f a b' t] h) fun v h' => v = .int .i64 (gWin vs.length (linkW vs) (cutW vs) a b' t : Int) ∧ GSch vs h' m ∧ KB m h h'

theorem gwins_W {nodes : Nat} {vs : List (Nat × Nat)} (hn : NetN nodes vs) {p : PV} {b0 m B : Nat} (hb0 : b0 ≤ m) (hlf : 1000 < lf) (ih : ∀ b, b < B → GWinOk g lf vs p b0 m b) {f a b t k : Nat} (hfr : frN vs.length a b ≤ B) (hst : StandsW vs.length f a b t) (hk : f.testBit k = true) (N : Nat) (hN : 3 * B + 10 ≤ N) {h : PHeap} (hs : GSch vs h m) (ht : Tab64 g h) (hp : FixW b0 h p (castW vs)) :
    W (CL g lf N fn_impl_netGame_wins [gmP p m, stP f a b t, .int .i64 (k : Int)] h) fun v h' => v = .bool (decide (gWin vs.length (linkW vs) (cutW vs) (putA t k a) (putB t k b) (3 - t) = t)) ∧ GSch vs h' m ∧ KB m h h' := by
  obtain ⟨n, rfl⟩ : ∃ n, N = n + 1 := ⟨N - 1, by omega⟩
  have hone := hp.now.one
  have hpl := hp.now.plain1
  have h8 := hn.2.2.1
  have l9 := hst.lt9 h8
  have hlm := hs.lt
  obtain ⟨hgp, hf9, hfree, hT⟩ := id hst
  have hkn := ((hfree k).1 hk).1
  have hfr' := standsW_put_fr hst hk
  rw [impl_netGame_wins.call_eq]
  unfold impl_netGame_wins.main
  simp only [env_C, env_box, env_load, env_bin, env_fieldAddr]
  refine wboxG hone fun h1 i1 o1 k1 l1 => ?_
  dsimp only
  refine wboxS fun h2 i2 o2 k2 l2 => ?_
  dsimp only
  have p1 := o1.keep k2
  have kk2 := k1.trans (k2.mono k1.1)
  have hs2 := (hs.keep k1).keep k2
  have ht2 := (ht.keep k1).keep k2
  repeat (first | (with_reducible refine wbd (fSt1 _) ?_) | (with_reducible refine wbd (ld1 (by assumption) rfl) ?_) | (with_reducible refine wbd (ldS (by assumption)) ?_) | (with_reducible refine wbd (ldG hone (by assumption)) ?_))
  refine wcall (after_W g lf hf9 l9.1 l9.2 (show k < 9 by omega) hT n (by omega) h2) fun v h3 ⟨hv, k3⟩ => ?_
  subst hv
  have q1 := p1.keep k3
  have q2 := o2.keep k3
  have kk3 := kk2.trans (k3.mono kk2.1)
  have hs3 := hs2.keep k3
  have ht3 := ht2.keep k3
  repeat (first | with_reducible refine wck plain_int ?_ | (with_reducible refine wbd (ld1 (by assumption) rfl) ?_) | (with_reducible refine wbd (ldS (by assumption)) ?_) | (with_reducible refine wbd (ldG hone (by assumption)) ?_) | (with_reducible refine wck plainS ?_) | (with_reducible refine wck (plainG hpl) ?_) | dsimp only)
  refine wcall (ih (B - 1) (by omega) _ _ _ _ n h3 (by omega) (hst.put hk) (by omega) hs3 ht3 (hp.keep (kk3.mono (by omega)))) fun v h4 ⟨hv, hs4, k4⟩ => ?_
  subst hv
  have r1 := q1.kb k4 (hs3.ne q1)
  have r2 := q2.kb k4 (hs3.ne q2)
  have kk4 : KB m h h4 := kk3.kb.trans k4
  repeat (first | with_reducible refine wck plain_int ?_ | (with_reducible refine wbd (ld1 (by assumption) rfl) ?_) | (with_reducible refine wbd (ldS (by assumption)) ?_) | (with_reducible refine wbd (ldG hone (by assumption)) ?_) | (with_reducible refine wck plainS ?_) | (with_reducible refine wck (plainG hpl) ?_) | dsimp only)
  refine weql (fun e5 => ?_) (fun e5 => ?_)
  · repeat (first | with_reducible refine wrB ?_)
    exact W.ret ⟨by rw [decide_eq_true (by omega)], hs4, kk4⟩
  · repeat (first | with_reducible refine wrB ?_)
    exact W.ret ⟨by rw [decide_eq_false (by omega)], hs4, kk4⟩

theorem gsolved_W {nodes : Nat} {vs : List (Nat × Nat)} (hn : NetN nodes vs) {p : PV} {b0 m B : Nat} (hb0 : b0 ≤ m) (hbig : Big g) (hlf : 1000 < lf) (ih : ∀ b, b < B → GWinOk g lf vs p b0 m b) {f a b t : Nat} (hfr : frN vs.length a b ≤ B) (hst : StandsW vs.length f a b t) (N : Nat) (hN : 3 * B + 11 ≤ N) {h : PHeap} (hs : GSch vs h m) (ht : Tab64 g h) (hp : FixW b0 h p (castW vs)) :
    W (CL g lf N fn_impl_netGame_solved [gmP p m, stP f a b t] h) fun v h' => v = .int .i64 (gWin vs.length (linkW vs) (cutW vs) a b t : Int) ∧ GSch vs h' m ∧ KB m h h' := by
  obtain ⟨n, rfl⟩ : ∃ n, N = n + 1 := ⟨N - 1, by omega⟩
  have hone := hp.now.one
  have hpl := hp.now.plain1
  have h8 := hn.2.2.1
  obtain ⟨hgp, hf9, hfree, hT⟩ := id hst
  obtain ⟨w1, w2⟩ := done_win (vs := vs) (a := a) (b := b) (t := t)
  have hlm := hs.lt
  rw [impl_netGame_solved.call_eq]
  unfold impl_netGame_solved.main
  simp only [env_C, env_lf, env_box, env_load, env_bin, env_fieldAddr, env_indexAddr]
  refine wboxG hone fun h1 i1 o1 k1 l1 => ?_
  dsimp only
  refine wboxS fun h2 i2 o2 k2 l2 => ?_
  dsimp only
  have p1 := o1.keep k2
  have kk2 := k1.trans (k2.mono k1.1)
  have hs2 := (hs.keep k1).keep k2
  have ht2 := (ht.keep k1).keep k2
  have hp2 := hp.keep (kk2.mono (show b0 ≤ h.length by omega))
  obtain ⟨h3, e3, k3⟩ := won_W g lf hn (m := m) hp2.now hst hbig ht2 hlf n (by omega)
  have kk3 := kk2.trans (k3.mono kk2.1)
  have q1 := p1.keep k3
  have q2 := o2.keep k3
  have hs3 := hs2.keep k3
  have ht3 := ht2.keep k3
  repeat (first | with_reducible refine wbd (by assumption) ?_ | (with_reducible refine wbd (ldS (by assumption)) ?_) | (with_reducible refine wbd (ldG hone (by assumption)) ?_) | dsimp only)
  refine wneq (fun e => ?_) (fun e => ?_)
  · repeat (first | with_reducible refine wT ?_ | with_reducible refine wrI ?_)
    exact W.ret ⟨by rw [(w1 (by omega)).1], hs3, kk3.kb⟩
  · have hwo := w2 (by omega)
    repeat (first | with_reducible refine wF ?_ | (with_reducible refine wbd (fSt0 _) ?_) | (with_reducible refine wia30 ?_) | (with_reducible refine wbd (ld1 (by assumption) rfl) ?_))
    refine loopW (fun m' st => ∃ (r : Nat) (h4 : PHeap), st = impl_netGame_solved.st0 (.ptr i1 0) (.ptr i2 0) (.int .i64 (r : Int)) h4 ∧ r < 2 ^ 9 ∧ (∀ k, r.testBit k = true → f.testBit k = true) ∧ (∀ k, f.testBit k = true → r.testBit k = false → gWin vs.length (linkW vs) (cutW vs) (putA t k a) (putB t k b) (3 - t) ≠ t) ∧
      At h4 i1 (gmC p m) ∧ At h4 i2 (stC f a b t) ∧ GSch vs h4 m ∧ Tab64 g h4 ∧ FixW b0 h4 p (castW vs) ∧ KB m h3 h4 ∧ m' = r) ?_ lf f _ (by omega) ⟨f, h3, rfl, hf9, fun _ h => h, fun k h1 h2 => (by rw [h1] at h2; cases h2), q1, q2, hs3, ht3, hp.keep (kk3.mono (by omega)), KB.refl _ _, rfl⟩
    rintro n1 m1 st ⟨r, h4, rfl, hr, hrf, hno, a1, a2, hs4, ht4, hp4, k4, hm⟩ next
    rw [impl_netGame_solved.body0_eq]
    unfold impl_netGame_solved.body0
    simp only [env_C, env_load, env_bin, env_fieldAddr]
    by_cases e4 : r = 0
    · subst e4
      have e5 := exchanged_W g lf n (by omega) h4 hT
      repeat (first | with_reducible refine wF ?_ | with_reducible refine wrI ?_ | with_reducible refine wbd (by assumption) ?_ | (with_reducible refine wbd (fSt1 _) ?_) | (with_reducible refine wbd (ld1 (by assumption) rfl) ?_) | with_reducible refine wneqF (by omega) ?_ | rw [kLoop_exit] | rw [impl_netGame_solved.after0_se0_2_3_6_17] | dsimp only | simp only [env_C, env_Y, env_g, env_lf, env_pick, env_alloc, env_box, env_build, env_buildSlice, env_load, env_store, env_ptr, env_bin, env_un, env_conv, env_make, env_slice, env_fieldAddr, env_field, env_indexAddr, env_index, env_extract, env_len, env_append, env_max, env_min, env_makeMap, env_lookup, env_update, env_clos, env_bstr])
      refine W.ret ⟨?_, hs4, kk3.kb.trans k4⟩
      have hmv : gMove vs.length (linkW vs) (cutW vs) a b t = false := by
        cases hh : gMove vs.length (linkW vs) (cutW vs) a b t with
        | false => rfl
        | true =>
          obtain ⟨k, c1, c2, c3⟩ := gMove_iff.1 hh
          exact absurd c3 (hno k ((hfree k).2 ⟨c1, c2⟩) (Nat.zero_testBit _))
      rw [hwo, hmv]; rfl
    · have el := leastIn_W g lf hr e4 hbig ht4 n (by omega)
      obtain ⟨c1, c2, c3, c4⟩ := low_ok hr e4
      obtain ⟨d1, d2⟩ := f_drop hr e4
      have hlt := without_less hr e4
      have hwl := without_lt9 (k := lowN r) hr
      obtain ⟨k, hk⟩ : ∃ k, k = lowN r := ⟨_, rfl⟩
      rw [← hk] at el c1 c2 d2 hlt hwl
      have hkf := hrf k c1
      repeat (first | with_reducible refine wT ?_ | with_reducible refine wbd (by assumption) ?_ | (with_reducible refine wbd (ldS (by assumption)) ?_) | (with_reducible refine wbd (ldG hone (by assumption)) ?_) | (with_reducible refine wck plainS ?_) | (with_reducible refine wck (plainG hpl) ?_) | with_reducible refine wneqT (by omega) ?_ | dsimp only)
      refine wcall (gwins_W g lf hn hb0 hlf ih hfr hst hkf n (by omega) hs4 ht4 hp4) fun v h5 ⟨hv, hs5, k5⟩ => ?_
      subst hv
      have r1 := a1.kb k5 (hs4.ne a1)
      have r2 := a2.kb k5 (hs4.ne a2)
      have ht5 := ht4.kbg hs4 k5
      have hp5 := hp4.kb k5 hb0 hs4.lt
      cases hd : decide (gWin vs.length (linkW vs) (cutW vs) (putA t k a) (putB t k b) (3 - t) = t) with
      | true =>
        repeat (first | with_reducible refine wT ?_ | with_reducible refine wrI ?_ | (with_reducible refine wbd (fSt1 _) ?_) | (with_reducible refine wbd (ld1 (by assumption) rfl) ?_) | (with_reducible refine wbd (ldS (by assumption)) ?_) | (with_reducible refine wbd (ldG hone (by assumption)) ?_) | (with_reducible refine wck plainS ?_) | (with_reducible refine wck (plainG hpl) ?_) | rw [kLoop_ret] | rw [impl_netGame_solved.K0_ret] | rw [impl_netGame_solved.top_sr_4] | dsimp only)
        refine W.ret ⟨?_, hs5, (kk3.kb.trans k4).trans k5⟩
        obtain ⟨x1, x2⟩ := (hfree k).1 hkf
        have hmv : gMove vs.length (linkW vs) (cutW vs) a b t = true := gMove_iff.2 ⟨k, x1, x2, of_decide_eq_true hd⟩
        rw [hwo, hmv]; rfl
      | false =>
        repeat (first | with_reducible refine wF ?_ | with_reducible refine wbd (by assumption) ?_ | (with_reducible refine wbd (ldS (by assumption)) ?_) | (with_reducible refine wbd (ldG hone (by assumption)) ?_) | (with_reducible refine wck plainS ?_) | (with_reducible refine wck (plainG hpl) ?_) | dsimp only)
        refine next _ _ (hm ▸ hlt) ⟨_, h5, rfl, hwl, fun j hj => ?_, fun j hj1 hj2 => ?_, r1, r2, hs5, ht5, hp5, k4.trans k5, rfl⟩
        · rw [without_bit, Bool.and_eq_true] at hj; exact hrf j hj.1
        · by_cases hjk : j = k
          · subst hjk; exact of_decide_eq_false hd
          · rw [without_bit] at hj2
            simp only [ne_eq, hjk, not_false_eq_true, decide_true, Bool.and_true] at hj2
            exact hno j hj1 hj2

theorem gWinner_W {nodes : Nat} {vs : List (Nat × Nat)} (hn : NetN nodes vs) {p : PV} {b0 m : Nat} (hb0 : b0 ≤ m) (hbig : Big g) (hlf : 1000 < lf) (B : Nat) : GWinOk g lf vs p b0 m B := by
  induction B using Nat.strongRecOn with
  | _ B ih =>
  intro f a b t N h hfr hst hN hs ht hp
  obtain ⟨n, rfl⟩ : ∃ n, N = n + 1 := ⟨N - 1, by omega⟩
  have hone := hp.now.one
  have hpl := hp.now.plain1
  have h8 := hn.2.2.1
  have hlm := hs.lt
  rw [impl_netGame_winner.call_eq]
  unfold impl_netGame_winner.main
  simp only [env_C, env_box, env_load, env_un, env_fieldAddr, env_extract, env_lookup, env_update]
  refine wboxG hone fun h1 i1 o1 k1 l1 => ?_
  dsimp only
  refine wboxS fun h2 i2 o2 k2 l2 => ?_
  dsimp only
  have p1 := o1.keep k2
  have kk2 := k1.trans (k2.mono k1.1)
  have hs2 := (hs.keep k1).keep k2
  have ht2 := (ht.keep k1).keep k2
  have hp2 := hp.keep (kk2.mono (show b0 ≤ h.length by omega))
  obtain ⟨es, ma, mm⟩ := _root_.id hs2
  have hlook := glook_st h8 ma mm hst
  repeat (first | with_reducible refine wbd (by assumption) ?_ | (with_reducible refine wbd (fG1 _) ?_) | (with_reducible refine wbd (ldS (by assumption)) ?_) | (with_reducible refine wbd (ldGM (by assumption)) ?_))
  cases hfd : findM es (stP f a b t) with
  | some v =>
    have hv := gmemo_find mm hfd
    subst hv
    refine wx0 ?_
    refine wx1 ?_
    repeat (first | with_reducible refine wF ?_ | with_reducible refine wnT ?_ | with_reducible refine wrI ?_)
    exact W.ret ⟨rfl, hs2, kk2.kb⟩
  | none =>
    refine wx0 ?_
    refine wx1 ?_
    repeat (first | with_reducible refine wT ?_ | with_reducible refine wnF ?_ | (with_reducible refine wbd (ldS (by assumption)) ?_) | (with_reducible refine wbd (ldG hone (by assumption)) ?_))
    refine wcall (gsolved_W g lf hn hb0 hbig hlf ih hfr hst n (by omega) hs2 ht2 hp2) fun v h3 ⟨hv, hs3, k3⟩ => ?_
    subst hv
    have q1 := p1.kb k3 (hs2.ne p1)
    have q2 := o2.kb k3 (hs2.ne o2)
    obtain ⟨es3, ma3, mm3⟩ := _root_.id hs3
    repeat (first | (with_reducible refine wbd (fG1 _) ?_) | (with_reducible refine wbd (ldS (by assumption)) ?_) | (with_reducible refine wbd (ldGM (by assumption)) ?_) | dsimp only)
    refine wbd (gupd_st h8 ma3 mm3 hst _) ?_
    have ma4 : MapAt (h3.set m (.mp (putM es3 (stP f a b t) (.int .i64 (gWin vs.length (linkW vs) (cutW vs) a b t : Int))))) m (putM es3 (stP f a b t) (.int .i64 (gWin vs.length (linkW vs) (cutW vs) a b t : Int))) := by
      unfold MapAt; rw [List.getElem?_set_self ma3.lt]
    have k4 : KB m h3 (h3.set m (.mp (putM es3 (stP f a b t) (.int .i64 (gWin vs.length (linkW vs) (cutW vs) a b t : Int))))) := ⟨by simp, fun i _ hn => List.getElem?_set_ne (by omega)⟩
    generalize h3.set m (.mp (putM es3 (stP f a b t) (.int .i64 (gWin vs.length (linkW vs) (cutW vs) a b t : Int)))) = h4 at ma4 k4 ⊢
    repeat (first | with_reducible refine wrI ?_)
    exact W.ret ⟨rfl, ⟨_, ma4, gmemo_put hst mm3⟩, (kk2.kb.trans k3).trans k4⟩

end Go.Proofs.YtbmmcldbllhhhaaDoor

/- The draws of chapter 6. -/
set_option maxRecDepth 20000
namespace Go.Proofs.YtbmmcldbllhhhaaDoor
open Go Go.Ip G

section
variable {Q : PV → PHeap → Prop} {x : Nat} {f : PV → Res}
end

variable (g : Nat → PV) (lf n : Nat)

end Go.Proofs.YtbmmcldbllhhhaaDoor

/- The laws of chapter 6 over what the program's functions are asked to compute. -/
set_option maxRecDepth 20000
namespace Go.Proofs.YtbmmcldbllhhhaaDoor
open Go Go.Ip G

variable (g : Nat → PV) (lf n : Nat)

/-! ### the exact laws -/
end Go.Proofs.YtbmmcldbllhhhaaDoor

/- The program's chapter 6: sets that are enough, the least of them, bridges, and cells that must be taken. -/
set_option maxRecDepth 20000
namespace Go.Proofs.YtbmmcldbllhhhaaDoor
open Go Go.Ip G

theorem KB.of {n m : Nat} {h h' : PHeap} (k : Keep n h h') (hn : h.length ≤ n) : KB m h h' := ⟨k.1, fun i hi _ => k.2 i (by omega)⟩

theorem Tab64.at {g : Nat → PV} {id : Nat} {l : List PV} {h h' : PHeap} (t : Tab64 g h) (a : At h id l) (k : KB id h h') : Tab64 g h' := fun i e => by
  have ho := t i e
  rw [k.2 i (List.getElem?_eq_some_iff.1 ho).1 (fun e => by subst e; unfold At at a; rw [ho] at a; cases a)]; exact ho
variable (g : Nat → PV) (lf n : Nat)

/-! ### the least sets -/
/-! ### cells that must be taken -/
/-! ### bridges -/
end Go.Proofs.YtbmmcldbllhhhaaDoor

/- What the program's functions of chapter 9 compute. -/
set_option maxRecDepth 20000
namespace Go.Proofs.YtbmmcldbllhhhaaDoor
open Go Go.Ip G

theorem whole_set : ((List.range 9).all fun n => match (binP Tryd.prog .shl 3 (.int .i64 1) (.int .i64 (n : Int))).bind fun v => binP Tryd.prog .sub 3 v (.int .i64 1) with | some (.int .i64 (.ofNat b)) => b == 2 ^ n - 1 | _ => false) = true := by kernel_rfl
theorem whole_at {n : Nat} (h : n ≤ 8) : ((binP Tryd.prog .shl 3 (.int .i64 1) (.int .i64 (n : Int))).bind fun v => binP Tryd.prog .sub 3 v (.int .i64 1)) = some (.int .i64 ((2 ^ n - 1 : Nat) : Int)) := by
  have := List.all_eq_true.1 whole_set n (List.mem_range.2 (by omega))
  split at this
  · rename_i b e
    rw [e, eq_of_beq this]; rfl
  · cases this

variable (g : Nat → PV) (lf n : Nat)

theorem allWires_W {ws : List (Int × Int)} {p : PV} {h : PHeap} (hp : WSl h p ws) (h8 : ws.length ≤ 8) (N : Nat) (hN : 1 ≤ N) : CL g lf N fn_impl_allWires [p] h = some (.int .i64 ((2 ^ ws.length - 1 : Nat) : Int), h) := by
  obtain ⟨n, rfl⟩ : ∃ n, N = n + 1 := ⟨N - 1, by omega⟩
  have hw := whole_at h8
  have hlen := hp.len
  rw [impl_allWires.call_eq]
  unfold impl_allWires.main
  simp only [env_len, env_bin]
  rw [hlen]
  simp only [Option.bind_some]
  have key : ∀ (a : Option PV) (f : PV → Option PV) (k : PV → Res) (r : PV), a.bind f = some r → (a.bind fun v => (f v).bind k) = k r := by
    intro a f k r e
    cases a with
    | none => cases e
    | some x => simp only [Option.bind_some] at e ⊢; rw [e]; rfl
  rw [key _ _ _ _ hw]
  rfl

theorem linksOk (hbig : Big g) (hlf : 1000 < lf) : LinksOk g lf := by
  intro N hN nodes set ws p h ht hp hl hf
  obtain ⟨n, rfl⟩ : ∃ n, N = n + 1 := ⟨N - 1, by omega⟩
  obtain ⟨h1, e1, k1⟩ := wiresOk_W g lf n (by omega) nodes hp hl hf
  have hp1 := hp.keep k1
  have : W (CL g lf (n + 1) fn_impl_LinksEnds [.int .i64 nodes, p, .int .i64 set] h) fun v h' => v = .bool (linksL nodes ws set) ∧ Keep h.length h h' := by
    rw [impl_LinksEnds.call_eq]
    unfold impl_LinksEnds.main
    simp only [env_C, env_pick]
    cases hb : wiresB nodes ws with
    | false =>
      rw [hb] at e1
      repeat (first | with_reducible refine wg0 rfl ?_ | with_reducible refine wpF ?_ | with_reducible refine wsm ?_ | with_reducible refine wrB ?_ | with_reducible refine wbd (by assumption) ?_ | dsimp only)
      exact W.ret ⟨by unfold linksL; rw [hb]; rfl, k1⟩
    | true =>
      rw [hb] at e1
      obtain ⟨M, rfl, hws, hn⟩ := wires_of hb
      have h8 : ws.length ≤ 8 := by have := hn.2.2.1; rwa [natW_length] at this
      have h28 : 2 ^ ws.length ≤ 2 ^ 8 := Nat.pow_le_pow_right (by decide) h8
      have h20 := Nat.two_pow_pos ws.length
      have hso : ∀ (N : Nat), 2 ≤ N → CL g lf N fn_impl_wireSetOk [p, .int .i64 set] h1 = some (.bool (decide (0 ≤ set ∧ set < ((2 ^ ws.length : Nat) : Int))), h1) := fun N hN => by
        obtain ⟨n, rfl⟩ : ∃ n, N = n + 1 := ⟨N - 1, by omega⟩
        have ea := allWires_W g lf hp1 h8 n (by omega)
        have : W (CL g lf (n + 1) fn_impl_wireSetOk [p, .int .i64 set] h1) fun v h' => v = .bool (decide (0 ≤ set ∧ set < ((2 ^ ws.length : Nat) : Int))) ∧ h' = h1 := by
          obtain ⟨Z, hZ⟩ : ∃ Z, Z = 2 ^ ws.length := ⟨_, rfl⟩
          rw [← hZ] at ea h28 h20 ⊢
          rw [impl_wireSetOk.call_eq]
          unfold impl_wireSetOk.main
          simp only [env_C, env_pick, env_bin]
          by_cases c1 : 0 ≤ set
          · by_cases c2 : set < (Z : Int)
            · repeat (first | with_reducible refine wg1 rfl ?_ | with_reducible refine wpT ?_ | with_reducible refine wpv ?_ | with_reducible refine wsm ?_ | with_reducible refine wrB ?_ | with_reducible refine wbd (by assumption) ?_ | with_reducible refine wleqT (by omega) ?_ | with_reducible refine wgeqT (by omega) ?_ | dsimp only)
              exact W.ret ⟨by rw [decide_eq_true ⟨c1, c2⟩], rfl⟩
            · repeat (first | with_reducible refine wg1 rfl ?_ | with_reducible refine wpT ?_ | with_reducible refine wpv ?_ | with_reducible refine wsm ?_ | with_reducible refine wrB ?_ | with_reducible refine wbd (by assumption) ?_ | with_reducible refine wleqF (by omega) ?_ | with_reducible refine wgeqT (by omega) ?_ | dsimp only)
              exact W.ret ⟨by rw [decide_eq_false (fun hh => c2 hh.2)], rfl⟩
          · repeat (first | with_reducible refine wg0 rfl ?_ | with_reducible refine wpF ?_ | with_reducible refine wsm ?_ | with_reducible refine wrB ?_ | with_reducible refine wgeqF (by omega) ?_ | dsimp only)
            exact W.ret ⟨by rw [decide_eq_false (fun hh => c1 hh.1)], rfl⟩
        obtain ⟨_, _, e, rfl, rfl⟩ := this
        exact e
      have e2 := hso n (by omega)
      cases hd : decide (0 ≤ set ∧ set < ((2 ^ ws.length : Nat) : Int)) with
      | false =>
        rw [hd] at e2
        repeat (first | with_reducible refine wg1 rfl ?_ | with_reducible refine wg0 rfl ?_ | with_reducible refine wpT ?_ | with_reducible refine wpF ?_ | with_reducible refine wsm ?_ | with_reducible refine wrB ?_ | with_reducible refine wbd (by assumption) ?_ | dsimp only)
        exact W.ret ⟨by unfold linksL; rw [hb, hd]; rfl, k1⟩
      | true =>
        rw [hd] at e2
        have hdt := of_decide_eq_true hd
        obtain ⟨S, rfl⟩ := Int.eq_ofNat_of_zero_le hdt.1
        obtain ⟨h2, e3, k2⟩ := linked_W g lf hn (hws ▸ hp1) (S := S) (by rw [natW_length]; omega) hbig (ht.keep k1).t64 hlf n (by omega)
        repeat (first | with_reducible refine wg1 rfl ?_ | with_reducible refine wpT ?_ | with_reducible refine wsm ?_ | with_reducible refine wrB ?_ | with_reducible refine wbd (by assumption) ?_ | dsimp only)
        exact W.ret ⟨by unfold linksL; rw [hb, hd]; rfl, k1.trans (k2.mono k1.1)⟩
  obtain ⟨_, h', e, rfl, k⟩ := this
  exact ⟨h', e, k⟩

theorem wwinOk (hbig : Big g) (hlf : 1000 < lf) : WWinOk g lf := by
  intro N hN nodes t ws p os po h ht hp hl hf ho hol hof
  obtain ⟨n, rfl⟩ : ∃ n, N = n + 1 := ⟨N - 1, by omega⟩
  obtain ⟨h1, e1, k1⟩ := ownersOk_W g lf n (by omega) nodes hp hl hf ho hol hof
  have hplay := playerOk_W g lf n (by omega) h1 t
  have : W (CL g lf (n + 1) fn_impl_WiresWinner [.int .i64 nodes, p, po, .int .i64 t] h) fun v h' => v = .int .i64 (wwinL nodes ws os t) ∧ Keep h.length h h' := by
    rw [impl_WiresWinner.call_eq]
    unfold impl_WiresWinner.main
    simp only [env_C, env_pick, env_un]
    cases hb : ownersB nodes ws os with
    | false =>
      rw [hb] at e1
      repeat (first | with_reducible refine wT ?_ | with_reducible refine wg0 rfl ?_ | with_reducible refine wpT ?_ | with_reducible refine wnF ?_ | with_reducible refine wsm ?_ | with_reducible refine wrI ?_ | with_reducible refine wbd (by assumption) ?_ | dsimp only)
      exact W.ret ⟨by unfold wwinL; rw [hb]; rfl, k1⟩
    | true =>
      rw [hb] at e1
      cases hpl : playerB t with
      | false =>
        rw [hpl] at hplay
        repeat (first | with_reducible refine wT ?_ | with_reducible refine wg1 rfl ?_ | with_reducible refine wpF ?_ | with_reducible refine wnT ?_ | with_reducible refine wnF ?_ | with_reducible refine wpv ?_ | with_reducible refine wsm ?_ | with_reducible refine wrI ?_ | with_reducible refine wbd (by assumption) ?_ | dsimp only)
        exact W.ret ⟨by unfold wwinL; rw [hpl, Bool.and_false]; rfl, k1⟩
      | true =>
        rw [hpl] at hplay
        obtain ⟨T, rfl, hT⟩ := player_of hpl
        obtain ⟨_, h1b, h1c⟩ := owners_of hb
        obtain ⟨M, rfl, hws, hn⟩ := wires_of h1b
        have h8 : ws.length ≤ 8 := by have := hn.2.2.1; rwa [natW_length] at this
        have hst := stands_owners hb h8 hT
        rw [← natW_length] at hst
        have h8' := hn.2.2.1
        repeat (first | with_reducible refine wF ?_ | with_reducible refine wg1 rfl ?_ | with_reducible refine wpF ?_ | with_reducible refine wnT ?_ | with_reducible refine wpv ?_ | with_reducible refine wsm ?_ | with_reducible refine wbd (by assumption) ?_ | dsimp only)
        refine wcall (newGame_W g lf (hp.keep k1) (natW ws) n (by omega)) fun v h2 ⟨m, hv, hs, k2, l2⟩ => ?_
        subst hv
        have kk2 := k1.trans (k2.mono k1.1)
        repeat (first | dsimp only)
        refine wcall (standingOf_W g lf (ho.keep kk2) (by omega) T n (by omega) hlf) fun v h3 ⟨hv, k3⟩ => ?_
        subst hv
        have kk3 := kk2.trans (k3.mono kk2.1)
        have lk1 := k1.1
        repeat (first | dsimp only)
        refine wcall (gWinner_W g lf hn (b0 := h.length) (m := m) (by omega) hbig hlf (natW ws).length _ _ _ _ n h3 (fr_le _ _ _) hst (by omega) (hs.keep k3) (ht.t64.keep kk3) (hws ▸ hp.fix.keep kk3)) fun v h4 ⟨hv, hs4, k4⟩ => ?_
        subst hv
        repeat (first | with_reducible refine wrI ?_ | dsimp only)
        exact W.ret ⟨by rw [wwinL_eq hb hT], kk3.kbs (Nat.le_refl _) k4 (by omega)⟩
  obtain ⟨_, h', e, rfl, k⟩ := this
  exact ⟨h', e, k⟩

/-! ### wires that win -/
/-! ### least sets -/
/-! ### the gap -/
end Go.Proofs.YtbmmcldbllhhhaaDoor

/- What the program's functions of chapter 10 compute. -/
set_option maxRecDepth 20000
namespace Go.Proofs.YtbmmcldbllhhhaaDoor
open Go Go.Ip G

/-! ### what holds of trees and of pairs of them -/
theorem treeW_short {nodes : Nat} {vs : List (Nat × Nat)} (hn : NetN nodes vs) {S X : Nat} (hS : S < 2 ^ vs.length) (hX : X < 2 ^ 5) : treeW vs S X = (decide (pop S + 1 = pop X) && decide (reachW vs S 0 = X)) := by
  rw [Bool.eq_iff_iff, tree_iff hn hS hX, Bool.and_eq_true, decide_eq_true_iff, decide_eq_true_iff]
  have hr := fun j => reach_bit hn (set := S) (u := 0) (by have := hn.1; omega) j
  constructor
  · intro h
    refine ⟨h.2.2.1, ?_⟩
    apply Nat.eq_of_testBit_eq
    intro j
    rw [Bool.eq_iff_iff, hr, h.2.2.2]
  · rintro ⟨h1, h2⟩
    refine ⟨hS, hX, h1, fun v => ?_⟩
    rw [← h2]; exact hr v

theorem findSome_filter {α β : Type} (p : α → Bool) (f : α → Option β) : ∀ l : List α, (l.filter p).findSome? f = l.findSome? fun a => if p a = true then f a else none
  | [] => rfl
  | a :: l => by
    rw [List.filter_cons, List.findSome?_cons]
    cases h : p a with
    | true => rw [if_pos rfl, if_pos rfl, List.findSome?_cons, findSome_filter p f l]
    | false => rw [if_neg (by decide), if_neg (by decide), findSome_filter p f l]
theorem find_filter {α : Type} (p q : α → Bool) : ∀ l : List α, (l.filter p).find? q = l.find? fun a => p a && q a
  | [] => rfl
  | a :: l => by
    rw [List.filter_cons, List.find?_cons]
    cases h : p a with
    | true => rw [if_pos rfl, List.find?_cons, Bool.true_and, find_filter p q l]
    | false => rw [if_neg (by decide), Bool.false_and, find_filter p q l]
theorem find_none_app {α : Type} {q : α → Bool} {l1 l2 : List α} (h : ∀ a ∈ l1, q a = false) : (l1 ++ l2).find? q = l2.find? q := by
  induction l1 with
  | nil => rfl
  | cons a l1 ih =>
    rw [List.cons_append, List.find?_cons, h a (by simp)]
    exact ih fun b hb => h b (by simp [hb])

def treesX (vs : List (Nat × Nat)) (X : Nat) : List Nat := (List.range (2 ^ vs.length)).filter fun S => treeW vs S X
def pairBy (L : List Nat) (a : Nat) : Option (Nat × Nat) := (L.find? fun b => decide (a &&& b = 0)).map fun b => (a, b)
/-- The first of a list that has nothing in common with some other one, and the first of these. -/
def pairAll (L : List Nat) : Option (Nat × Nat) := L.findSome? (pairBy L)

theorem pair_among {vs : List (Nat × Nat)} {X T : Nat} (hirr : ∀ a b, treeW vs a X = true → a &&& b = 0 → a ≠ b) : ∀ m k, k + m = T → (∀ a b, a < k → b < T → treeW vs a X = true → treeW vs b X = true → a &&& b = 0 → False) →
    (List.range' k m).findSome? (fun a => if treeW vs a X = true then ((List.range T).find? fun b => treeW vs b X && decide (a &&& b = 0)).map (fun b => (a, b)) else none) =
    (List.range' k m).findSome? (fun a => if treeW vs a X = true then ((List.range' (a + 1) (T - (a + 1))).find? (pairBW vs X a)).map (fun b => (a, b)) else none)
  | 0, _, _, _ => rfl
  | m + 1, k, hk, H => by
    rw [List.range'_succ, List.findSome?_cons, List.findSome?_cons]
    have hkT : k < T := by omega
    have hpb : (fun b => treeW vs b X && decide (k &&& b = 0)) = pairBW vs X k := by
      funext b
      show _ = (decide (k &&& b = 0) && treeW vs b X)
      rw [Bool.and_comm]
    cases ht : treeW vs k X with
    | false =>
      rw [if_neg (by decide), if_neg (by decide)]
      refine pair_among hirr m (k + 1) (by omega) fun a b ha hb h1 h2 h3 => ?_
      by_cases hak : a = k
      · subst hak; rw [ht] at h1; cases h1
      · exact H a b (by omega) hb h1 h2 h3
    | true =>
      rw [if_pos rfl, if_pos rfl, hpb]
      have hsp : List.range T = List.range (k + 1) ++ List.range' (k + 1) (T - (k + 1)) := by
        rw [List.range_eq_range', List.range_eq_range']
        have := @List.range'_append 0 (k + 1) (T - (k + 1)) 1
        rw [Nat.one_mul, Nat.zero_add] at this
        rw [this]
        congr 1
        omega
      have hfi : (List.range T).find? (pairBW vs X k) = (List.range' (k + 1) (T - (k + 1))).find? (pairBW vs X k) := by
        rw [hsp]
        refine find_none_app fun b hb => ?_
        have hb := List.mem_range.1 hb
        show (decide (k &&& b = 0) && treeW vs b X) = false
        by_cases h0 : k &&& b = 0
        · cases htb : treeW vs b X with
          | false => rw [Bool.and_false]
          | true =>
            have hne := hirr k b ht h0
            exact absurd (by rw [Nat.and_comm]; exact h0) (fun h0' => H b k (by omega) hkT htb ht h0')
        · rw [decide_eq_false h0]; rfl
      rw [hfi]
      cases ho : (List.range' (k + 1) (T - (k + 1))).find? (pairBW vs X k) with
      | some b => rfl
      | none =>
        rw [ho] at hfi
        refine pair_among hirr m (k + 1) (by omega) fun a b ha hb h1 h2 h3 => ?_
        by_cases hak : a = k
        · subst hak
          have := List.find?_eq_none.1 hfi b (List.mem_range.2 hb)
          apply this
          show (decide (a &&& b = 0) && treeW vs b X) = true
          rw [decide_eq_true h3, h2]; rfl
        · exact H a b (by omega) hb h1 h2 h3

theorem pairAll_W {nodes : Nat} {vs : List (Nat × Nat)} (hn : NetN nodes vs) {X : Nat} (hX2 : 2 ≤ pop X) : pairAll (treesX vs X) = pairW vs X := by
  have h1 : pairAll (treesX vs X) = (List.range' 0 (2 ^ vs.length)).findSome? (fun a => if treeW vs a X = true then ((List.range (2 ^ vs.length)).find? fun b => treeW vs b X && decide (a &&& b = 0)).map (fun b => (a, b)) else none) := by
    unfold pairAll treesX
    rw [findSome_filter, List.range_eq_range']
    congr 1
    funext a
    unfold pairBy
    rw [find_filter]
  have h2 : pairW vs X = (List.range' 0 (2 ^ vs.length)).findSome? (fun a => if treeW vs a X = true then ((List.range' (a + 1) (2 ^ vs.length - (a + 1))).find? (pairBW vs X a)).map (fun b => (a, b)) else none) := by
    unfold pairW
    rw [List.range_eq_range']
    rfl
  rw [h1, h2]
  exact pair_among (fun a b ht h0 => pair_lt hn hX2 ht h0) _ 0 (Nat.zero_add _) fun a b ha => absurd ha (Nat.not_lt_zero _)

theorem castN_length (L : List Nat) : (castN L).length = L.length := by unfold castN; rw [List.length_map]
theorem castN_get {L : List Nat} {i : Nat} (hi : i < (castN L).length) (hi2 : i < L.length) : (castN L)[i] = (L[i] : Int) := by simp [castN]
theorem treesX_len (vs : List (Nat × Nat)) (X : Nat) : (treesX vs X).length ≤ 2 ^ vs.length := by
  unfold treesX
  have := List.length_filter_le (fun S => treeW vs S X) (List.range (2 ^ vs.length))
  rwa [List.length_range] at this
theorem treesX_lt {vs : List (Nat × Nat)} {X a : Nat} (h : a ∈ treesX vs X) : a < 2 ^ vs.length := List.mem_range.1 (List.mem_filter.1 h).1
variable (g : Nat → PV) (lf n : Nat)

theorem bind2 : ∀ (a : Option PV) (f : PV → Option PV) (k : PV → Res) (r : PV), a.bind f = some r → (a.bind fun v => (f v).bind k) = k r := by
  intro a f k r e
  cases a with
  | none => cases e
  | some x => simp only [Option.bind_some] at e ⊢; rw [e]; rfl
theorem allNodes_W {M : Nat} (hM : M ≤ 8) (N : Nat) (hN : 1 ≤ N) (h : PHeap) : CL g lf N fn_impl_allNodes [.int .i64 (M : Int)] h = some (.int .i64 ((2 ^ M - 1 : Nat) : Int), h) := by
  obtain ⟨n, rfl⟩ : ∃ n, N = n + 1 := ⟨N - 1, by omega⟩
  have hw := whole_at hM
  rw [impl_allNodes.call_eq]
  unfold impl_allNodes.main
  simp only [env_bin]
  rw [bind2 _ _ _ _ hw]
  rfl

theorem netSetOk_W {ws : List (Int × Int)} {p : PV} {h : PHeap} (hp : WSl h p ws) (h8 : ws.length ≤ 8) (set : Int) (N : Nat) (hN : 2 ≤ N) : CL g lf N fn_impl_wireSetOk [p, .int .i64 set] h = some (.bool (decide (0 ≤ set ∧ set < ((2 ^ ws.length : Nat) : Int))), h) := by
  obtain ⟨n, rfl⟩ : ∃ n, N = n + 1 := ⟨N - 1, by omega⟩
  have ea := allWires_W g lf hp h8 n (by omega)
  have h28 : 2 ^ ws.length ≤ 2 ^ 8 := Nat.pow_le_pow_right (by decide) h8
  have h20 := Nat.two_pow_pos ws.length
  have : W (CL g lf (n + 1) fn_impl_wireSetOk [p, .int .i64 set] h) fun v h' => v = .bool (decide (0 ≤ set ∧ set < ((2 ^ ws.length : Nat) : Int))) ∧ h' = h := by
    obtain ⟨Z, hZ⟩ : ∃ Z, Z = 2 ^ ws.length := ⟨_, rfl⟩
    rw [← hZ] at ea h28 h20 ⊢
    rw [impl_wireSetOk.call_eq]
    unfold impl_wireSetOk.main
    simp only [env_C, env_pick, env_bin]
    by_cases c1 : 0 ≤ set
    · by_cases c2 : set < (Z : Int)
      · repeat (first | with_reducible refine wg1 rfl ?_ | with_reducible refine wpT ?_ | with_reducible refine wpv ?_ | with_reducible refine wsm ?_ | with_reducible refine wrB ?_ | with_reducible refine wbd (by assumption) ?_ | with_reducible refine wleqT (by omega) ?_ | with_reducible refine wgeqT (by omega) ?_ | dsimp only)
        exact W.ret ⟨by rw [decide_eq_true ⟨c1, c2⟩], rfl⟩
      · repeat (first | with_reducible refine wg1 rfl ?_ | with_reducible refine wpT ?_ | with_reducible refine wpv ?_ | with_reducible refine wsm ?_ | with_reducible refine wrB ?_ | with_reducible refine wbd (by assumption) ?_ | with_reducible refine wleqF (by omega) ?_ | with_reducible refine wgeqT (by omega) ?_ | dsimp only)
        exact W.ret ⟨by rw [decide_eq_false (fun hh => c2 hh.2)], rfl⟩
    · repeat (first | with_reducible refine wg0 rfl ?_ | with_reducible refine wpF ?_ | with_reducible refine wsm ?_ | with_reducible refine wrB ?_ | with_reducible refine wgeqF (by omega) ?_ | dsimp only)
      exact W.ret ⟨by rw [decide_eq_false (fun hh => c1 hh.1)], rfl⟩
  obtain ⟨_, _, e, rfl, rfl⟩ := this
  exact e

/-! ### a tree -/
theorem treeOn_W {nodes : Nat} {vs : List (Nat × Nat)} (hn : NetN nodes vs) {p : PV} {h : PHeap} (hp : WSl h p (castW vs)) {S X : Nat} (hS : S < 2 ^ vs.length) (hX : X < 2 ^ 5) (hbig : Big g) (ht : Tab64 g h) (hlf : 1000 < lf) (N : Nat) (hN : 6 ≤ N) :
    ∃ h', CL g lf N fn_impl_treeOn [p, .int .i64 (X : Int), .int .i64 (S : Int)] h = some (.bool (treeW vs S X), h') ∧ Keep h.length h h' := by
  obtain ⟨n, rfl⟩ : ∃ n, N = n + 1 := ⟨N - 1, by omega⟩
  have hS9 := pow58 hS hn.2.2.1
  have e1 := countIn_W g lf n (by omega) h (x := S) hS9
  have e2 := countIn_W g lf n (by omega) h (x := X) (by omega)
  have pA := pop_le (n := 9) (by decide) hS9
  have pB := pop_le (n := 9) (x := X) (by decide) (by omega)
  rw [size_pop] at e1 e2
  have : W (CL g lf (n + 1) fn_impl_treeOn [p, .int .i64 (X : Int), .int .i64 (S : Int)] h) fun v h' => v = .bool (treeW vs S X) ∧ Keep h.length h h' := by
    rw [treeW_short hn hS hX]
    obtain ⟨A, hA⟩ : ∃ A, A = pop S := ⟨_, rfl⟩
    obtain ⟨B, hB⟩ : ∃ B, B = pop X := ⟨_, rfl⟩
    rw [← hA] at e1 pA ⊢
    rw [← hB] at e2 pB ⊢
    have hsb : -4611686018427387904 ≤ (B : Int) - 1 ∧ (B : Int) - 1 ≤ 4611686018427387904 := by omega
    rw [impl_treeOn.call_eq]
    unfold impl_treeOn.main
    simp only [env_C, env_pick, env_bin]
    by_cases hc : A + 1 = B
    · have hc' : (A : Int) = (B : Int) - 1 := by omega
      rw [decide_eq_true hc, Bool.true_and]
      repeat (first | with_reducible refine wg1 rfl ?_ | with_reducible refine wsm ?_ | with_reducible refine wbd (by assumption) ?_ | (with_reducible refine wsub hsb ?_) | with_reducible refine weqlT (by omega) ?_ | dsimp only)
      refine wcall (reached_W g lf hn hp hS hbig ht hlf n (by omega)) fun v h1 ⟨hv, k1⟩ => ?_
      subst hv
      obtain ⟨Y, hY⟩ : ∃ Y, Y = reachW vs S 0 := ⟨_, rfl⟩
      rw [← hY]
      by_cases hy : Y = X
      · have hy' : (Y : Int) = (X : Int) := by omega
        rw [decide_eq_true hy]
        repeat (first | with_reducible refine wg1 rfl ?_ | with_reducible refine wpT ?_ | with_reducible refine wpv ?_ | with_reducible refine wsm ?_ | with_reducible refine wrB ?_ | with_reducible refine weqlT (by omega) ?_ | dsimp only)
        exact W.ret ⟨rfl, k1⟩
      · have hy' : ¬ (Y : Int) = (X : Int) := by omega
        rw [decide_eq_false hy]
        repeat (first | with_reducible refine wg1 rfl ?_ | with_reducible refine wpT ?_ | with_reducible refine wpv ?_ | with_reducible refine wsm ?_ | with_reducible refine wrB ?_ | with_reducible refine weqlF (by omega) ?_ | dsimp only)
        exact W.ret ⟨rfl, k1⟩
    · have hc' : ¬ (A : Int) = (B : Int) - 1 := by omega
      rw [decide_eq_false hc, Bool.false_and]
      repeat (first | with_reducible refine wg0 rfl ?_ | with_reducible refine wpF ?_ | with_reducible refine wsm ?_ | with_reducible refine wrB ?_ | with_reducible refine wbd (by assumption) ?_ | (with_reducible refine wsub hsb ?_) | with_reducible refine weqlF (by omega) ?_ | dsimp only)
      exact W.ret ⟨rfl, Keep.refl _ _⟩
  obtain ⟨_, h', e, rfl, k⟩ := this
  exact ⟨h', e, k⟩

theorem treeOk_W {ws : List (Int × Int)} {p : PV} {h : PHeap} (hbig : Big g) (hlf : 1000 < lf) (N : Nat) (hN : 8 ≤ N) (nodes set : Int) (ht : TabOk g h) (hp : WSl h p ws) (hl : ws.length ≤ 2 ^ 35) (hf : ws.length < lf) :
    ∃ h', CL g lf N fn_impl_TreeOk [.int .i64 nodes, p, .int .i64 set] h = some (.bool (treeL nodes ws set), h') ∧ Keep h.length h h' := by
  obtain ⟨n, rfl⟩ : ∃ n, N = n + 1 := ⟨N - 1, by omega⟩
  obtain ⟨h1, e1, k1⟩ := wiresOk_W g lf n (by omega) nodes hp hl hf
  have hp1 := hp.keep k1
  have : W (CL g lf (n + 1) fn_impl_TreeOk [.int .i64 nodes, p, .int .i64 set] h) fun v h' => v = .bool (treeL nodes ws set) ∧ Keep h.length h h' := by
    rw [impl_TreeOk.call_eq]
    unfold impl_TreeOk.main
    simp only [env_C, env_pick]
    unfold treeL
    cases hb : wiresB nodes ws with
    | false =>
      rw [hb] at e1
      repeat (first | with_reducible refine wg0 rfl ?_ | with_reducible refine wpF ?_ | with_reducible refine wsm ?_ | with_reducible refine wrB ?_ | with_reducible refine wbd (by assumption) ?_ | dsimp only)
      exact W.ret ⟨rfl, k1⟩
    | true =>
      rw [hb] at e1
      obtain ⟨M, rfl, hws, hn, hl8, h28, hM2, hM5, hM32, hpw, hpM, hnl⟩ := net_of hb
      have hM0 := Nat.two_pow_pos M
      have e2 := netSetOk_W g lf hp1 hl8 set n (by omega)
      rw [Bool.true_and, Int.toNat_natCast]
      cases hd : decide (0 ≤ set ∧ set < ((2 ^ ws.length : Nat) : Int)) with
      | false =>
        rw [hd] at e2
        repeat (first | with_reducible refine wg1 rfl ?_ | with_reducible refine wg0 rfl ?_ | with_reducible refine wpT ?_ | with_reducible refine wpF ?_ | with_reducible refine wsm ?_ | with_reducible refine wrB ?_ | with_reducible refine wbd (by assumption) ?_ | dsimp only)
        exact W.ret ⟨rfl, k1⟩
      | true =>
        rw [hd] at e2
        have hdt := of_decide_eq_true hd
        obtain ⟨S, rfl⟩ := Int.eq_ofNat_of_zero_le hdt.1
        rw [Bool.true_and, Int.toNat_natCast]
        have e3 := allNodes_W g lf (M := M) (by omega) n (by omega) h1
        obtain ⟨h2, e4, k2⟩ := treeOn_W g lf hn (hws ▸ hp1) (S := S) (X := 2 ^ M - 1) (by rw [hnl]; omega) (by omega) hbig (ht.keep k1).t64 hlf n (by omega)
        repeat (first | with_reducible refine wg1 rfl ?_ | with_reducible refine wpT ?_ | with_reducible refine wsm ?_ | with_reducible refine wrB ?_ | with_reducible refine wbd (by assumption) ?_ | dsimp only)
        exact W.ret ⟨rfl, k1.trans (k2.mono k1.1)⟩
  obtain ⟨_, h', e, rfl, k⟩ := this
  exact ⟨h', e, k⟩
theorem treeOkOk (hbig : Big g) (hlf : 1000 < lf) : TreeOkOk g lf := fun N hN nodes set _ _ _ ht hp hl hf => treeOk_W g lf hbig hlf N (by omega) nodes set ht hp hl hf

/-! ### all trees -/
theorem treesOn_W {nodes : Nat} {vs : List (Nat × Nat)} (hn : NetN nodes vs) {p : PV} {h : PHeap} (hp : WSl h p (castW vs)) {X : Nat} (hX : X < 2 ^ 5) (hbig : Big g) (ht : Tab64 g h) (hlf : 1000 < lf) (N : Nat) (hN : 7 ≤ N) :
    W (CL g lf N fn_impl_treesOn [p, .int .i64 (X : Int)] h) fun q h' => OwnSl h.length h' q (castN (treesX vs X)) ∧ Keep h.length h h' := by
  obtain ⟨n, rfl⟩ : ∃ n, N = n + 1 := ⟨N - 1, by omega⟩
  have h8 := hn.2.2.1
  have ea := allWires_W g lf hp (by rw [castW_length]; exact h8) n (by omega)
  rw [castW_length] at ea
  have h28 : 2 ^ vs.length ≤ 2 ^ 8 := Nat.pow_le_pow_right (by decide) h8
  have h20 := Nat.two_pow_pos vs.length
  have hpo := partsOf_W g lf (F := 2 ^ vs.length - 1) (by omega) n (by omega) hlf h
  rw [allParts h8] at hpo
  rw [impl_treesOn.call_eq]
  unfold impl_treesOn.main
  simp only [env_C, env_lf, env_len]
  repeat (first | with_reducible refine wbd (by assumption) ?_ | dsimp only)
  refine wcall hpo fun q1 h1 ⟨o1, k1⟩ => ?_
  have hll : ((List.range (2 ^ vs.length)).map fun x : Nat => (x : Int)).length = 2 ^ vs.length := by simp
  have hfx := o1.int.fix
  obtain ⟨b, hb⟩ : ∃ b, b = h1.length := ⟨_, rfl⟩
  rw [← hb] at hfx
  have lk1 := k1.1
  unfold treesX
  repeat (first | with_reducible refine wlen (OwnSl.int (by assumption)) ?_ | dsimp only)
  refine loopW (fun d st => ∃ (k : Nat) (q : PV) (h2 : PHeap), st = impl_treesOn.st0 p (.int .i64 (X : Int)) q q1 (.int .i64 (((List.range (2 ^ vs.length)).map fun x : Nat => (x : Int)).length : Int)) (.int .i64 (k : Int)) h2 ∧ k + d = 2 ^ vs.length ∧ OwnSl b h2 q (castN ((List.range k).filter fun S => treeW vs S X)) ∧ Keep b h1 h2) ?_ lf (2 ^ vs.length) _ (by omega)
    ⟨0, .nilsl, h1, rfl, by omega, OwnSl.nil _ _, Keep.refl _ _⟩
  rintro n1 d st ⟨k, q, h2, rfl, hkd, o2, k2⟩ next
  have kk2 : Keep h.length h h2 := k1.trans (k2.mono (by omega))
  rw [impl_treesOn.body0_eq]
  unfold impl_treesOn.body0
  simp only [env_C, env_buildSlice, env_load, env_bin, env_indexAddr, env_append]
  cases d with
  | zero =>
    obtain rfl : k = 2 ^ vs.length := by omega
    repeat (first | with_reducible refine wF ?_ | with_reducible refine wlssF (by omega) ?_ | with_reducible refine wresO (by assumption) ?_ | rw [kLoop_exit] | rw [impl_treesOn.after0_se0_0_1_5_10_11_12_13])
    exact W.ret ⟨o2.mono (by omega), kk2⟩
  | succ d =>
    have hk : k < 2 ^ vs.length := by omega
    have hkl : k < ((List.range (2 ^ vs.length)).map fun x : Nat => (x : Int)).length := by omega
    obtain ⟨a, eA, la⟩ := (hfx.get k2).at' hkl
    rw [show ((List.range (2 ^ vs.length)).map fun x : Nat => (x : Int))[k] = (k : Int) by simp] at la
    have htl : (castN ((List.range k).filter fun S => treeW vs S X)).length + 1 ≤ 2 ^ 36 := by
      rw [castN_length]
      have := List.length_filter_le (fun S => treeW vs S X) (List.range k)
      rw [List.length_range] at this
      omega
    have hsu : castN ((List.range (k + 1)).filter fun S => treeW vs S X) = castN ((List.range k).filter fun S => treeW vs S X) ++ (if treeW vs k X = true then [(k : Int)] else []) := by
      unfold castN
      rw [List.range_succ, List.filter_append, List.map_append]
      congr 1
      cases e : treeW vs k X <;> simp [List.filter_cons, e]
    have l2 : b ≤ h2.length := by have := k2.1; omega
    obtain ⟨h3, e3, k3⟩ := treeOn_W g lf hn (hp.keep kk2) hk hX hbig (ht.keep kk2) hlf n (by omega)
    have kk3 := kk2.trans (k3.mono kk2.1)
    have o3 := o2.keep k3
    have b3 : Keep b h1 h3 := k2.trans (k3.mono l2)
    have l3 : b ≤ h3.length := by have := b3.1; omega
    cases htk : treeW vs k X with
    | false =>
      rw [htk] at e3
      rw [htk, if_neg (by decide), List.append_nil] at hsu
      repeat (first | with_reducible refine wT ?_ | with_reducible refine wF ?_ | with_reducible refine wbd (by assumption) ?_ | with_reducible refine wadd1 (by omega) ?_ | with_reducible refine wlssT (by omega) ?_ | dsimp only)
      exact next _ _ (Nat.lt_succ_self d) ⟨k + 1, q, h3, rfl, by omega, by rw [hsu]; exact o3, b3⟩
    | true =>
      rw [htk] at e3
      rw [htk, if_pos rfl] at hsu
      repeat (first | with_reducible refine wT ?_ | with_reducible refine wbd (by assumption) ?_ | with_reducible refine wlssT (by omega) ?_ | dsimp only)
      refine wap o3 l3 htl fun q' h5 o5 k5 => ?_
      repeat (first | with_reducible refine wadd1 (by omega) ?_ | dsimp only)
      exact next _ _ (Nat.lt_succ_self d) ⟨k + 1, q', h5, rfl, by omega, by rw [hsu]; exact o5, b3.trans k5⟩

theorem treesOf_W {ws : List (Int × Int)} {p : PV} {h : PHeap} (hbig : Big g) (hlf : 1000 < lf) (N : Nat) (hN : 9 ≤ N) (nodes : Int) (ht : TabOk g h) (hp : WSl h p ws) (hl : ws.length ≤ 2 ^ 35) (hf : ws.length < lf) :
    ∃ q h', CL g lf N fn_impl_TreesOf [.int .i64 nodes, p] h = some (q, h') ∧ OwnSl h.length h' q (treesL nodes ws) ∧ Keep h.length h h' := by
  obtain ⟨n, rfl⟩ : ∃ n, N = n + 1 := ⟨N - 1, by omega⟩
  obtain ⟨h1, e1, k1⟩ := wiresOk_W g lf n (by omega) nodes hp hl hf
  have hp1 := hp.keep k1
  suffices this : W (CL g lf (n + 1) fn_impl_TreesOf [.int .i64 nodes, p] h) fun q h' => OwnSl h.length h' q (treesL nodes ws) ∧ Keep h.length h h' by
    obtain ⟨q, h', e, o, k⟩ := this
    exact ⟨q, h', e, o, k⟩
  rw [impl_TreesOf.call_eq]
  unfold impl_TreesOf.main
  simp only [env_C, env_un]
  unfold treesL
  cases hb : wiresB nodes ws with
  | false =>
    rw [hb] at e1
    rw [if_neg (by decide)]
    repeat (first | with_reducible refine wT ?_ | with_reducible refine wnF ?_ | with_reducible refine wrN ?_ | with_reducible refine wbd (by assumption) ?_ | dsimp only)
    exact W.ret ⟨OwnSl.nil _ _, k1⟩
  | true =>
    rw [hb] at e1
    obtain ⟨M, rfl, hws, hn, hl8, h28, hM2, hM5, hM32, hpw, hpM, hnl⟩ := net_of hb
    have hM0 := Nat.two_pow_pos M
    rw [if_pos rfl, Int.toNat_natCast]
    have e3 := allNodes_W g lf (M := M) (by omega) n (by omega) h1
    repeat (first | with_reducible refine wF ?_ | with_reducible refine wnT ?_ | with_reducible refine wbd (by assumption) ?_ | dsimp only)
    refine wcall (treesOn_W g lf hn (hws ▸ hp1) (X := 2 ^ M - 1) (by omega) hbig (ht.keep k1).t64 hlf n (by omega)) fun q h2 ⟨o2, k2⟩ => ?_
    dsimp only
    refine wbd o2.res ?_
    exact W.ret ⟨o2.mono k1.1, k1.trans (k2.mono k1.1)⟩
theorem treesOfOk (hbig : Big g) (hlf : 1000 < lf) : TreesOfOk g lf := fun N hN nodes _ _ _ ht hp hl hf => treesOf_W g lf hbig hlf N (by omega) nodes ht hp hl hf

/-! ### pairs -/
theorem pairAmong_W {L : List Nat} {q : PV} {h : PHeap} (hq : IntSl .i64 h q (castN L)) (hL : ∀ a ∈ L, a < 2 ^ 9) (hl : L.length ≤ 512) (hlf : 1000 < lf) (N : Nat) (hN : 1 ≤ N) : CL g lf N fn_impl_pairAmong [q] h = some (pairP (pairAll L), h) := by
  obtain ⟨n, rfl⟩ : ∃ n, N = n + 1 := ⟨N - 1, by omega⟩
  have hlen := hq.len'
  rw [castN_length] at hlen
  have : W (CL g lf (n + 1) fn_impl_pairAmong [q] h) fun v h' => v = pairP (pairAll L) ∧ h' = h := by
    rw [impl_pairAmong.call_eq]
    unfold impl_pairAmong.main
    simp only [env_lf, env_len]
    repeat (first | with_reducible refine wbd (by assumption) ?_)
    refine loopW (fun d st => ∃ (L1 L2 : List Nat) (i : Nat), st = impl_pairAmong.st0 q q (.int .i64 (L.length : Int)) (.int .i64 (i : Int)) h ∧ d = L2.length ∧ L = L1 ++ L2 ∧ i = L1.length ∧ pairAll L = L2.findSome? (pairBy L)) ?_ lf L.length _ (by omega) ⟨[], L, 0, rfl, rfl, rfl, rfl, rfl⟩
    rintro n1 d st ⟨L1, L2, i, rfl, rfl, hLs, hi, hfs⟩ next
    rw [impl_pairAmong.body0_eq]
    unfold impl_pairAmong.body0
    simp only [env_lf, env_load, env_bin, env_indexAddr, env_len]
    cases L2 with
    | nil =>
      have hiL : i = L.length := by rw [hLs, List.append_nil, hi]
      rw [hfs]
      repeat (first | with_reducible refine wF ?_ | with_reducible refine wrI ?_ | with_reducible refine wrB ?_ | with_reducible refine wlssF (by omega) ?_ | rw [kLoop_exit] | rw [impl_pairAmong.after0_se0_0_9_10_11_12])
      exact W.ret ⟨rfl, rfl⟩
    | cons a L2 =>
      have hiL : i < L.length := by rw [hLs, List.length_append, List.length_cons]; omega
      have hai : L[i] = a := by subst hi; simp [hLs]
      have ha9 : a < 2 ^ 9 := hL a (by rw [hLs]; simp)
      obtain ⟨x1, ex1, lx1⟩ := hq.at' (i := i) (by rw [castN_length]; exact hiL)
      rw [castN_get (by rw [castN_length]; exact hiL) hiL, hai] at lx1
      rw [List.findSome?_cons] at hfs
      repeat (first | with_reducible refine wT ?_ | with_reducible refine wbd (by assumption) ?_ | with_reducible refine wlssT (by omega) ?_)
      refine loopW (fun d2 st => ∃ (M1 M2 : List Nat) (j : Nat), st = impl_pairAmong.st1 q (.int .i64 (a : Int)) q (.int .i64 (L.length : Int)) (.int .i64 (i : Int)) q (.int .i64 (L.length : Int)) (.int .i64 (j : Int)) h ∧ d2 = M2.length ∧ L = M1 ++ M2 ∧ j = M1.length ∧ (L.find? fun b => decide (a &&& b = 0)) = M2.find? fun b => decide (a &&& b = 0)) ?_ lf L.length _ (by omega) ⟨[], L, 0, rfl, rfl, rfl, rfl, rfl⟩
      rintro n2 d2 st ⟨M1, M2, j, rfl, rfl, hMs, hj, hfi⟩ next2
      rw [impl_pairAmong.body1_eq]
      unfold impl_pairAmong.body1
      simp only [env_load, env_bin, env_indexAddr]
      cases M2 with
      | nil =>
        have hjL : j = L.length := by rw [hMs, List.append_nil, hj]
        have hpb : pairBy L a = none := by unfold pairBy; rw [hfi]; rfl
        rw [hpb] at hfs
        repeat (first | with_reducible refine wF ?_ | with_reducible refine wadd1 (by omega) ?_ | with_reducible refine wlssF (by omega) ?_ | rw [kLoop_exit] | rw [impl_pairAmong.after1_se2_0_6_9_10_11_15_16_17_18] | simp only [env_C, env_Y, env_g, env_lf, env_pick, env_alloc, env_box, env_build, env_buildSlice, env_load, env_store, env_ptr, env_bin, env_un, env_conv, env_make, env_slice, env_fieldAddr, env_field, env_indexAddr, env_index, env_extract, env_len, env_append, env_max, env_min, env_makeMap, env_lookup, env_update, env_clos, env_bstr])
        exact next _ _ (by rw [List.length_cons]; omega) ⟨L1 ++ [a], L2, i + 1, rfl, rfl, by rw [hLs, List.append_assoc]; rfl, by rw [List.length_append, hi]; rfl, hfs⟩
      | cons b M2 =>
        have hjL : j < L.length := by rw [hMs, List.length_append, List.length_cons]; omega
        have hbj : L[j] = b := by subst hj; simp [hMs]
        have hb9 : b < 2 ^ 9 := hL b (by rw [hMs]; simp)
        obtain ⟨x2, ex2, lx2⟩ := hq.at' (i := j) (by rw [castN_length]; exact hjL)
        rw [castN_get (by rw [castN_length]; exact hjL) hjL, hbj] at lx2
        rw [List.find?_cons] at hfi
        have a62 : a < 2 ^ 62 := by omega
        have b62 : b < 2 ^ 62 := by omega
        obtain ⟨c, hc⟩ : ∃ c, c = a &&& b := ⟨_, rfl⟩
        rw [← hc] at hfi
        by_cases hc0 : c = 0
        · have hc0' : (c : Int) = 0 := by omega
          rw [decide_eq_true hc0] at hfi
          have hpb : pairBy L a = some (a, b) := by unfold pairBy; rw [hfi]; rfl
          rw [hpb] at hfs
          rw [hfs]
          repeat (first | with_reducible refine wT ?_ | with_reducible refine wrI ?_ | with_reducible refine wrB ?_ | with_reducible refine wbd (by assumption) ?_ | (with_reducible refine wand a62 b62 ?_) | (rw [← hc]) | with_reducible refine wlssT (by omega) ?_ | with_reducible refine weqlT (by omega) ?_ | rw [kLoop_ret] | rw [impl_pairAmong.K0_ret] | rw [impl_pairAmong.K1_ret] | rw [impl_pairAmong.top_sr_2_3_4] | dsimp only)
          exact W.ret ⟨rfl, rfl⟩
        · have hc0' : ¬ (c : Int) = 0 := by omega
          rw [decide_eq_false hc0] at hfi
          repeat (first | with_reducible refine wT ?_ | with_reducible refine wF ?_ | with_reducible refine wbd (by assumption) ?_ | (with_reducible refine wand a62 b62 ?_) | (rw [← hc]) | with_reducible refine wadd1 (by omega) ?_ | with_reducible refine wlssT (by omega) ?_ | with_reducible refine weqlF (by omega) ?_)
          exact next2 _ _ (by rw [List.length_cons]; omega) ⟨M1 ++ [b], M2, j + 1, rfl, rfl, by rw [hMs, List.append_assoc]; rfl, by rw [List.length_append, hj]; rfl, hfi⟩
  obtain ⟨_, _, e, rfl, rfl⟩ := this
  exact e

theorem treePairOk (hbig : Big g) (hlf : 1000 < lf) : TreePairOk g lf := by
  intro N hN nodes ws p h ht hp hl hf
  obtain ⟨n, rfl⟩ : ∃ n, N = n + 1 := ⟨N - 1, by omega⟩
  obtain ⟨q, h1, e1, o1, k1⟩ := treesOf_W g lf hbig hlf n (by omega) nodes ht hp hl hf
  have key : CL g lf n fn_impl_pairAmong [q] h1 = some (pairP (tpairO nodes ws), h1) := by
    unfold treesL at o1
    unfold tpairO
    cases hb : wiresB nodes ws with
    | false =>
      rw [hb, if_neg (by decide)] at o1
      rw [if_neg (by decide)]
      exact pairAmong_W g lf (L := []) o1.int (fun a ha => (by cases ha)) (by decide) hlf n (by omega)
    | true =>
      rw [hb, if_pos rfl] at o1
      obtain ⟨M, rfl, hws, hn, hl8, h28, hM2, hM5, hM32, hpw, hpM, hnl⟩ := net_of hb
      rw [Int.toNat_natCast] at o1
      rw [if_pos rfl, Int.toNat_natCast, ← pairAll_W hn (X := 2 ^ M - 1) (by rw [pop_full hn]; exact hM2)]
      have := treesX_len (natW ws) (2 ^ M - 1)
      rw [hnl] at this
      refine pairAmong_W g lf (L := treesX (natW ws) (2 ^ M - 1)) o1.int (fun a ha => ?_) (by omega) hlf n (by omega)
      have := treesX_lt ha
      rw [hnl] at this
      omega
  have : W (CL g lf (n + 1) fn_impl_TreePair [.int .i64 nodes, p] h) fun v h' => v = pairP (tpairO nodes ws) ∧ Keep h.length h h' := by
    rw [impl_TreePair.call_eq]
    unfold impl_TreePair.main
    simp only [env_C, env_extract]
    cases ho : tpairO nodes ws with
    | none =>
      rw [ho] at key
      have key : CL g lf n fn_impl_pairAmong [q] h1 = some (.tup [.int .i64 0, .int .i64 0, .bool false], h1) := key
      repeat (first | with_reducible refine wrI ?_ | with_reducible refine wrB ?_ | with_reducible refine wx0 ?_ | with_reducible refine wx1 ?_ | with_reducible refine wx2 ?_ | with_reducible refine wbd (by assumption) ?_ | dsimp only)
      exact W.ret ⟨rfl, k1⟩
    | some ab =>
      obtain ⟨a, b⟩ := ab
      rw [ho] at key
      have key : CL g lf n fn_impl_pairAmong [q] h1 = some (.tup [.int .i64 (a : Int), .int .i64 (b : Int), .bool true], h1) := key
      repeat (first | with_reducible refine wrI ?_ | with_reducible refine wrB ?_ | with_reducible refine wx0 ?_ | with_reducible refine wx1 ?_ | with_reducible refine wx2 ?_ | with_reducible refine wbd (by assumption) ?_ | dsimp only)
      exact W.ret ⟨rfl, k1⟩
  obtain ⟨_, h', e, rfl, k⟩ := this
  exact ⟨h', e, k⟩

/-! ### a wire given back, and how many trees have it -/
end Go.Proofs.YtbmmcldbllhhhaaDoor

