/- Promise 3: free boards are positions. -/
import Derived.Test.YtaajbolfmhhdcaaRd4
import Derived.Test.YtaajbolfmhhdcaaC5
namespace Go.Proofs.Ytaajbolfmhhdcaa
open Go Go.Ip Go.RowKit G

variable (g : Nat → PV) (lf n : Nat)

theorem alive_calls (N : Nat) (hN : 3 ≤ N) (h : PHeap) : CL g lf N fn_laws_alive [] h = some (.bool true, h) := by
  obtain ⟨n, rfl⟩ : ∃ n, N = n + 1 := ⟨N - 1, by omega⟩
  rw [laws_alive.call_eq]
  have b22 : boardB 2 2 = true := by decide
  have b02 : boardB 0 2 = false := by decide
  have e1 := boardOk_N g lf n (by omega) h 2 2
  have e2 := boardOk_N g lf n (by omega) h 0 2
  rw [b22] at e1
  rw [b02] at e2
  unfold laws_alive.main
  exact bd e1 (bd (want_bool (x := true) (y := true)) (bd e2 (bd (want_bool (x := true) (y := true)) (bd (v := (PV.bool true, h)) rfl (bd (v := PV.bool true) rfl (bd res_bool rfl))))))

theorem positionOk_N {xs : List Int} {p : PV} {h : PHeap} (N : Nat) (hN : 3 ≤ N) (r c : Int) (hp : IntSl .i64 h p xs) (hl : xs.length ≤ 2 ^ 36) (hf : xs.length < lf) :
    CL g lf N fn_impl_PositionOk [.int .i64 r, .int .i64 c, p] h = some (.bool (posB r c xs), h) := by
  obtain ⟨n, rfl⟩ : ∃ n, N = n + 3 := ⟨N - 3, by omega⟩
  exact positionOk_calls g lf n r c hp hl hf
theorem specPositionOk_N {xs : List Int} {p : PV} {h : PHeap} (N : Nat) (hN : 3 ≤ N) (r c : Int) (hp : IntSl .i64 h p xs) (hl : xs.length ≤ 2 ^ 36) (hf : xs.length < lf) :
    CL g lf N fn_spec_PositionOk [.int .i64 r, .int .i64 c, p] h = some (.bool (posB r c xs), h) := by
  obtain ⟨n, rfl⟩ : ∃ n, N = n + 3 := ⟨N - 3, by omega⟩
  exact specPositionOk_calls g lf n r c hp hl hf

theorem drawPosition_calls {p : PV} {xs : List Int} {h : PHeap} (N : Nat) (hN : 5 ≤ N) (ha : Arg h p xs) (hlf : 20 < lf) :
    ∃ (r c : Int) (q : PV) (zs : List Int) (h' : PHeap), CL g lf N fn_spec_DrawPositionOk [p] h = some (.tup [.int .i64 r, .int .i64 c, q], h') ∧ IntSl .i64 h' q zs ∧ zs.length ≤ 10 ∧ -1 ≤ r ∧ r ≤ 5 ∧ -1 ≤ c ∧ c ≤ 5 := by
  obtain ⟨n, rfl⟩ : ∃ n, N = n + 1 := ⟨N - 1, by omega⟩
  rw [spec_DrawPositionOk.call_eq]
  obtain ⟨h1, e1, r1, k1⟩ := open_calls g lf n (by omega) ha
  obtain ⟨r, c, q, zs, h2, e2, r2, k2, o2, hl, hrc⟩ := position_calls g lf n (by omega) 2 r1 (by omega) (by omega) (by omega) hlf
  refine ⟨r, c, q, zs, h2, ?_, o2.int, hl, hrc⟩
  unfold spec_DrawPositionOk.main
  exact bd e1 (bd e2 (bd extract_tup (bd extract_tup (bd extract_tup (bd res_int (bd res_int (bd o2.res rfl)))))))

/-- All stones of the first player are taken away. -/
def clearL (x : Int) : Int := if x = 1 then 0 else x

theorem contentB_clear {x : Int} (h : contentB x = true) : contentB (clearL x) = true := by
  unfold clearL
  split
  · decide
  · exact h

theorem posB_clear {r c : Int} {xs : List Int} (h : posB r c xs = true) : posB r c (xs.map clearL) = true := by
  unfold posB at h ⊢
  rw [Bool.and_eq_true, Bool.and_eq_true] at h ⊢
  refine ⟨⟨h.1.1, by rw [List.length_map]; exact h.1.2⟩, ?_⟩
  rw [List.all_eq_true] at h ⊢
  intro y hy
  obtain ⟨x, hx, rfl⟩ := List.mem_map.1 hy
  exact contentB_clear (h.2 x hx)

theorem posB_free {r c : Int} {m : Nat} (hb : boardB r c = true) (hm : (m : Int) = r * c) : posB r c (List.replicate m 0) = true := by
  unfold posB
  rw [Bool.and_eq_true, Bool.and_eq_true]
  refine ⟨⟨hb, decide_eq_true (by rw [List.length_replicate]; exact hm)⟩, ?_⟩
  rw [List.all_eq_true]
  intro y hy
  rw [List.eq_of_mem_replicate hy]
  decide

theorem posB_board {r c : Int} {xs : List Int} (hb : boardB r c = false) : posB r c xs = false := by
  unfold posB
  rw [hb]; rfl

theorem clear_loop {xs : List Int} {p : PV} {r c : Int} {B : Bool} (hl : xs.length ≤ 10) : ∀ (m i fuel : Nat) (q : PV) (ys : List Int) (h : PHeap) (b : Nat), i + m = xs.length → m < fuel → ys.length = i →
    OwnSl b h q ys → b ≤ h.length → (∀ h', Keep b h h' → IntSl .i64 h' p xs) →
    ∃ q' i' v h', OwnSl b h' q' (ys ++ (xs.drop i).map clearL) ∧
      loopK (ev ((env g lf n).cx Try.prog laws_FnPositionOk.kl) laws_FnPositionOk.lp0) fuel (laws_FnPositionOk.st0 (.int .i64 r) (.int .i64 c) p (.bool B) q (.int .i64 i) h) (laws_FnPositionOk.K0 (env g lf n) (kTop Try.prog Try.f4)) =
        laws_FnPositionOk.K0 (env g lf n) (kTop Try.prog Try.f4) (.exit 0) (laws_FnPositionOk.se0_3_4_5_6_7_8_42 (.int .i64 r) (.int .i64 c) p (.bool B) q' (.int .i64 i') v h')
  | 0, i, fuel, q, ys, h, b, him, hf, hly, ho, hb, hp => by
    obtain ⟨f, rfl⟩ : ∃ f, fuel = f + 1 := ⟨fuel - 1, by omega⟩
    rw [loopK_succ, laws_FnPositionOk.body0_eq]
    have f1 : binP Try.prog .lss 3 (.int .i64 (i : Int)) (.int .i64 (xs.length : Int)) = some (.bool false) := by rw [bin_lss, decide_eq_false (by omega)]
    refine ⟨q, i, .bool false, h, ?_, ?_⟩
    · rw [List.drop_eq_nil_of_le (by omega)]; simpa using ho
    · unfold laws_FnPositionOk.body0
      refine bd (hp h (Keep.refl _ _)).len' (bd f1 (cdF ?_))
      rfl
  | m + 1, i, fuel, q, ys, h, b, him, hf, hly, ho, hb, hp => by
    obtain ⟨f, rfl⟩ : ∃ f, fuel = f + 1 := ⟨fuel - 1, by omega⟩
    have hi : i < xs.length := by omega
    obtain ⟨a, ha, hla⟩ := (hp h (Keep.refl _ _)).at' hi
    have f1 : binP Try.prog .lss 3 (.int .i64 (i : Int)) (.int .i64 (xs.length : Int)) = some (.bool true) := by rw [bin_lss, decide_eq_true (by omega)]
    have f3 : binP Try.prog .add 3 (.int .i64 (i : Int)) (.int .i64 1) = some (.int .i64 ((i + 1 : Nat) : Int)) := by rw [bin_add, nx (by omega)]
    obtain ⟨v, q2, h3, e2, e3, o3, k3⟩ := ho.append hb (clearL xs[i]) (by omega)
    obtain ⟨q', i', u, h', a1, a2⟩ := clear_loop (r := r) (c := c) (B := B) hl m (i + 1) f q2 (ys ++ [clearL xs[i]]) h3 b (by omega) (by omega) (by simp; omega) o3 (Nat.le_trans hb k3.1) (fun h4 hk4 => hp h4 (k3.trans hk4))
    refine ⟨q', i', u, h', ?_, ?_⟩
    · rw [List.drop_eq_getElem_cons hi, List.map_cons]
      simpa using a1
    · rw [loopK_succ, laws_FnPositionOk.body0_eq]
      unfold laws_FnPositionOk.body0
      refine bd (hp h (Keep.refl _ _)).len' (bd f1 (cdT (bd ha (bd hla ?_))))
      by_cases h1 : xs[i] = 1
      · have g1 : binP Try.prog .eql 3 (.int .i64 xs[i]) (.int .i64 1) = some (.bool true) := by rw [bin_eql, h1]; rfl
        have hz : clearL xs[i] = 0 := by unfold clearL; rw [if_pos h1]
        rw [hz] at e2
        exact bd g1 (cdT (bd e2 (bd e3 (bd f3 a2))))
      · have g1 : binP Try.prog .eql 3 (.int .i64 xs[i]) (.int .i64 1) = some (.bool false) := by rw [bin_eql]; simp [h1]
        have hz : clearL xs[i] = xs[i] := by unfold clearL; rw [if_neg h1]
        rw [hz] at e2
        exact bd g1 (cdF (bd e2 (bd e3 (bd f3 a2))))

theorem fnPositionOk_calls {p : PV} {xs : List Int} {h : PHeap} (N : Nat) (hN : 6 ≤ N) (ha : Arg h p xs) (hlf : 20 < lf) :
    ∃ h', CL g lf N fn_laws_FnPositionOk [p] h = some (.bool true, h') := by
  obtain ⟨n, rfl⟩ : ∃ n, N = n + 1 := ⟨N - 1, by omega⟩
  rw [laws_FnPositionOk.call_eq]
  have hlenp : lenP Try.prog 22 p = some (.int .i64 xs.length) := (ha.1 h (Keep.refl _ _)).len tyB
  by_cases hbig : (1048576 : Int) < (xs.length : Int)
  · refine ⟨h, ?_⟩
    unfold laws_FnPositionOk.main
    have f0 : binP Try.prog .gtr 3 (.int .i64 (xs.length : Int)) (.int .i64 1048576) = some (.bool true) := by rw [bin_gtr, decide_eq_true hbig]
    exact bd hlenp (bd f0 (cdT (bd res_bool rfl)))
  · obtain ⟨r, c, q, zs, h1, e1, hq, hl, hr1, hr2, hc1, hc2⟩ := drawPosition_calls g lf n (by omega) ha hlf
    have f0 : binP Try.prog .gtr 3 (.int .i64 (xs.length : Int)) (.int .i64 1048576) = some (.bool false) := by rw [bin_gtr, decide_eq_false hbig]
    have e2 := positionOk_N g lf n (by omega) r c hq (by omega) (by omega)
    have e3 := specPositionOk_N g lf n (by omega) r c hq (by omega) (by omega)
    have e4 := specBoardOk_N g lf n (by omega) h1 r c
    have e5 : ∀ h', CL g lf n fn_laws_alive [] h' = some (.bool true, h') := fun h' => alive_calls g lf n (by omega) h'
    obtain ⟨B, hB⟩ : ∃ B, B = posB r c zs := ⟨_, rfl⟩
    rw [← hB] at e2 e3
    have f1 : binP Try.prog .neq 4 (.bool B) (.bool B) = some (.bool false) := by rw [neqB]; simp
    have pre : ∀ {z : PV × PHeap}, condP (.bool (!boardB r c))
         (
          (unP .not (.bool B)).bind fun v14 =>
          (wantV v14 true).bind fun v15 =>
          (bif v15 then CL g lf n fn_laws_alive [] h1 else some (.tup [], h1)).bind fun v16 =>
          (pickP v14 v16.1 (.bool false)).bind fun v17 =>
          (resV v17).bind fun v18 =>
          some (v18, v16.2))
         (
          (buildSliceP Try.prog 27 0 [] h1).bind fun v19 =>
          loopK (ev ((env g lf n).cx Try.prog laws_FnPositionOk.kl) laws_FnPositionOk.lp0) lf (laws_FnPositionOk.st0 (.int .i64 r) (.int .i64 c) q (.bool B) v19.1 (.int .i64 0) v19.2) (laws_FnPositionOk.K0 (env g lf n) (kTop Try.prog Try.f4))) = some z →
        laws_FnPositionOk.main (env g lf n) p h = some z := by
      intro z hz
      unfold laws_FnPositionOk.main
      exact bd hlenp (bd f0 (cdF (bd e1 (bd extract_tup (bd extract_tup (bd extract_tup (bd e2 (bd e3 (bd f1 (cdF (bd e4 (bd un_not hz))))))))))))
    cases hb : boardB r c with
    | false =>
      rw [posB_board hb] at hB
      subst hB
      refine ⟨h1, pre ?_⟩
      rw [hb]
      exact cdT (bd un_not (bd (want_bool (x := true) (y := true)) (bd (e5 h1) (bd (v := PV.bool true) rfl (bd res_bool rfl)))))
    | true =>
      have hb' := hb
      unfold boardB at hb'
      have hm := of_decide_eq_true hb'
      have hmul := mul_small hm.1 hm.2.1 hm.2.2.1 hm.2.2.2.1
      have hpos : 0 ≤ r * c := Int.mul_nonneg (by omega) (by omega)
      obtain ⟨m, hmc⟩ := Int.eq_ofNat_of_zero_le hpos
      have hm9 : m ≤ 9 := by have := hm.2.2.2.2; omega
      have fmul : binP Try.prog .mul 3 (.int .i64 r) (.int .i64 c) = some (.int .i64 (m : Int)) := by rw [bin_mul, hmul, hmc]
      obtain ⟨q0, h2, e6, o2, k2⟩ := empty_lit (h := h1)
      obtain ⟨q', i', u, h3, o3, hloop⟩ := clear_loop g lf n (r := r) (c := c) (B := B) hl zs.length 0 lf q0 [] h2 h1.length (by omega) (by omega) rfl o2 k2.1 (fun h' hk' => hq.keep (k2.trans hk'))
      have o3' : OwnSl h1.length h3 q' (zs.map clearL) := o3
      obtain ⟨pz, h4, e7, o4, k4⟩ := made (h := h3) (m := m) (by omega)
      have e8 := positionOk_N g lf n (by omega) r c o4.int (by rw [List.length_replicate]; omega) (by rw [List.length_replicate]; omega)
      rw [posB_free hb hmc.symm] at e8
      have o5 := o3'.keep k4
      have e9 := positionOk_N g lf n (by omega) r c o5.int (by rw [List.length_map]; omega) (by rw [List.length_map]; omega)
      refine ⟨h4, pre ?_⟩
      rw [hb]
      refine cdF (bd e6 (hloop.trans ?_))
      rw [laws_FnPositionOk.after0_se0_3_4_5_6_7_8_42]
      refine bd fmul (bd e7 (bd e8 (bd (want_bool (x := true) (y := true)) (bd (v := (PV.bool B, h4)) rfl (bd (want_bool (x := true) (y := true)) (bd (v := (PV.bool (!B), h4)) rfl (bd (want_bool (x := true) (y := true)) (bd (v := (PV.bool (!B), h4)) rfl ?_))))))))
      cases B with
      | true =>
        rw [posB_clear hB.symm] at e9
        refine bd (want_bool (x := false) (y := false)) (bd (v := (PV.int .i64 r, h4)) rfl (bd (want_bool (x := false) (y := false)) (bd (v := (PV.int .i64 c, h4)) rfl (bd (want_bool (x := false) (y := false)) (bd (v := (q', h4)) rfl (bd (want_bool (x := false) (y := false)) (bd e9 ?_)))))))
        exact bd (want_bool (x := true) (y := true)) (bd (v := (PV.bool true, h4)) rfl (bd (v := PV.bool true) rfl (bd (want_bool (x := true) (y := true)) (bd (e5 h4) (bd (v := PV.bool true) rfl (bd res_bool rfl))))))
      | false =>
        refine bd (want_bool (x := true) (y := false)) (bd (v := (PV.tup [], h4)) rfl (bd (want_bool (x := true) (y := false)) (bd (v := (PV.tup [], h4)) rfl (bd (want_bool (x := true) (y := false)) (bd (v := (PV.tup [], h4)) rfl (bd (want_bool (x := true) (y := false)) (bd (v := (PV.tup [], h4)) rfl ?_)))))))
        exact bd (want_bool (x := true) (y := true)) (bd (v := (PV.bool true, h4)) rfl (bd (v := PV.bool true) rfl (bd (want_bool (x := true) (y := true)) (bd (e5 h4) (bd (v := PV.bool true) rfl (bd res_bool rfl))))))

end Go.Proofs.Ytaajbolfmhhdcaa
