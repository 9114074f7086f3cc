/- Texts of this seat, in their order, put together by program. -/
import Derived.Test.YtocjdekcmhgjeaaDoorK8
set_option linter.unusedSimpArgs false
set_option linter.unusedVariables false
set_option linter.unusedSectionVars false
/- The model's chapter 3: what MoveOk, Played, WinnerOf, WinningCells and LinePlayed of it compute. -/
set_option maxRecDepth 20000
namespace Go.Proofs.YtocjdekcmhgjeaaDoor
open Go Go.Ip G

variable (g : Nat → PV) (lf n : Nat)

theorem other_W (N : Nat) (hN : 1 ≤ N) (h : PHeap) {T : Nat} (hT : T = 1 ∨ T = 2) : CL g lf N fn_spec_l1Other [.int .i64 (T : Int)] h = some (.int .i64 ((3 - T : Nat) : Int), h) := by
  have := l1Other_N g lf N hN h (x := (T : Int)) (by rcases hT with rfl | rfl <;> rfl)
  rw [swap_player hT] at this; exact this

theorem specMoveOk_calls {xs : List Int} {p : PV} {h : PHeap} (N : Nat) (hN : 6 ≤ N) (r c k pl : Int) (hp : IntSl .i64 h p xs) (hl : xs.length ≤ 2 ^ 35) (hf : xs.length < lf) (hlf : 1000 < lf) :
    ∃ h', CL g lf N fn_spec_MoveOk [.int .i64 r, .int .i64 c, p, .int .i64 k, .int .i64 pl] h = some (.bool (moveL r c xs k pl), h') ∧ Keep h.length h h' := by
  obtain ⟨n, rfl⟩ : ∃ n, N = n + 1 := ⟨N - 1, by omega⟩
  have hpos := specPositionOk_N g lf n (by omega) r c hp (by omega) hf
  have hin1 : CL g lf n fn_spec_l1In [.int .i64 pl, .int .i64 1, .int .i64 2] h = some (.bool (playerB pl), h) := l1In_N g lf n (by omega) h pl 1 2
  have : W (CL g lf (n + 1) fn_spec_MoveOk [.int .i64 r, .int .i64 c, p, .int .i64 k, .int .i64 pl] h) fun v h' => v = .bool (moveL r c xs k pl) ∧ Keep h.length h h' := by
    rw [spec_MoveOk.call_eq]
    unfold spec_MoveOk.main
    simp only [env_C, env_pick, env_load, env_bin, env_un, env_indexAddr, env_len]
    unfold moveL
    cases hb : posB r c xs with
    | false =>
      rw [hb] at hpos
      repeat (first | with_reducible refine wT ?_ | with_reducible refine wg0 rfl ?_ | with_reducible refine wpT ?_ | with_reducible refine wnF ?_ | with_reducible refine wsm ?_ | with_reducible refine wrB ?_ | with_reducible refine wbd (by assumption) ?_ | dsimp only)
      exact W.ret ⟨rfl, Keep.refl _ _⟩
    | true =>
      rw [hb] at hpos
      cases hpl : playerB pl with
      | false =>
        rw [hpl] at hin1
        repeat (first | with_reducible refine wT ?_ | with_reducible refine wg1 rfl ?_ | with_reducible refine wg0 rfl ?_ | with_reducible refine wpT ?_ | with_reducible refine wpF ?_ | with_reducible refine wnT ?_ | with_reducible refine wnF ?_ | with_reducible refine wpv ?_ | with_reducible refine wsm ?_ | with_reducible refine wrB ?_ | with_reducible refine wbd (by assumption) ?_ | dsimp only)
        exact W.ret ⟨rfl, Keep.refl _ _⟩
      | true =>
        rw [hpl] at hin1
        obtain ⟨R, C, hS⟩ := sides_of hb
        have hlen : xs.length = R * C := hS.2.2.2.2.2.2.2.1
        have hpos1 : 1 ≤ xs.length := by rw [hlen]; exact Nat.mul_pos hS.2.2.1 hS.2.2.2.2.1
        have hin2 : CL g lf n fn_spec_l1In [.int .i64 k, .int .i64 0, .int .i64 ((xs.length - 1 : Nat) : Int)] h = some (.bool (decide (0 ≤ k ∧ k ≤ ((xs.length - 1 : Nat) : Int))), h) := l1In_N g lf n (by omega) h k 0 _
        have hce : decide (0 ≤ k ∧ k ≤ ((xs.length - 1 : Nat) : Int)) = decide (0 ≤ k ∧ k < (xs.length : Int)) := decide_eq_decide.2 (by omega)
        rw [hce] at hin2
        cases hk : decide (0 ≤ k ∧ k < (xs.length : Int)) with
        | false =>
          rw [hk] at hin2
          repeat (first | with_reducible refine wT ?_ | with_reducible refine wg1 rfl ?_ | with_reducible refine wpF ?_ | with_reducible refine wnT ?_ | with_reducible refine wnF ?_ | with_reducible refine wpv ?_ | with_reducible refine wsm ?_ | with_reducible refine wrB ?_ | with_reducible refine wbd (by assumption) ?_ | with_reducible refine wlen (by assumption) ?_ | with_reducible refine wsub1 (by omega) (by omega) ?_ | dsimp only)
          exact W.ret ⟨rfl, Keep.refl _ _⟩
        | true =>
          rw [hk] at hin2
          have hkb := of_decide_eq_true hk
          obtain ⟨K, rfl⟩ := Int.eq_ofNat_of_zero_le hkb.1
          have hK : K < xs.length := by omega
          have hgd : xs.getD (K : Int).toNat 0 = xs[K] := by
            rw [show ((K : Int).toNat) = K from rfl, List.getD_eq_getElem?_getD, List.getElem?_eq_getElem hK]; rfl
          rw [hgd]
          obtain ⟨h1, e1, k1⟩ := specJoins_calls g lf n (by omega) r c 1 hp (by omega) hf hlf
          obtain ⟨h2, e2, k2⟩ := specJoins_calls g lf n (by omega) r c 2 (hp.keep k1) (by omega) hf hlf
          repeat (first | with_reducible refine wF ?_ | with_reducible refine wg1 rfl ?_ | with_reducible refine wpF ?_ | with_reducible refine wnT ?_ | with_reducible refine wpv ?_ | with_reducible refine wsm ?_ | with_reducible refine wbd (by assumption) ?_ | with_reducible refine wlen (by assumption) ?_ | (with_reducible refine wat hp hK fun a hl => ?_) | with_reducible refine wsub1 (by omega) (by omega) ?_ | dsimp only)
          refine weql (fun e => ?_) (fun e => ?_)
          · rw [decide_eq_true e]
            cases hj1 : joinsL r c xs 1 with
            | true =>
              rw [hj1] at e1
              repeat (first | with_reducible refine wg1 rfl ?_ | with_reducible refine wg0 rfl ?_ | with_reducible refine wpT ?_ | with_reducible refine wpF ?_ | with_reducible refine wnT ?_ | with_reducible refine wpv ?_ | with_reducible refine wsm ?_ | with_reducible refine wrB ?_ | with_reducible refine wbd (by assumption) ?_ | dsimp only)
              exact W.ret ⟨by simp, k1⟩
            | false =>
              rw [hj1] at e1
              cases hj2 : joinsL r c xs 2 with
              | true =>
                rw [hj2] at e2
                repeat (first | with_reducible refine wg1 rfl ?_ | with_reducible refine wpT ?_ | with_reducible refine wnT ?_ | with_reducible refine wnF ?_ | with_reducible refine wpv ?_ | with_reducible refine wsm ?_ | with_reducible refine wrB ?_ | with_reducible refine wbd (by assumption) ?_ | dsimp only)
                exact W.ret ⟨by simp, k1.trans (k2.mono k1.1)⟩
              | false =>
                rw [hj2] at e2
                repeat (first | with_reducible refine wg1 rfl ?_ | with_reducible refine wpT ?_ | with_reducible refine wnF ?_ | with_reducible refine wpv ?_ | with_reducible refine wsm ?_ | with_reducible refine wrB ?_ | with_reducible refine wbd (by assumption) ?_ | dsimp only)
                exact W.ret ⟨by simp, k1.trans (k2.mono k1.1)⟩
          · rw [decide_eq_false e]
            repeat (first | with_reducible refine wg0 rfl ?_ | with_reducible refine wpF ?_ | with_reducible refine wsm ?_ | with_reducible refine wrB ?_ | dsimp only)
            exact W.ret ⟨by simp, Keep.refl _ _⟩
  obtain ⟨_, h', e, rfl, k⟩ := this
  exact ⟨h', e, k⟩

theorem specPlayed_calls {xs : List Int} {p : PV} {h : PHeap} (N : Nat) (hN : 7 ≤ N) (r c k pl : Int) (hp : IntSl .i64 h p xs) (hl : xs.length ≤ 2 ^ 35) (hf : xs.length < lf) (hlf : 1000 < lf) :
    ∃ q h', CL g lf N fn_spec_Played [.int .i64 r, .int .i64 c, p, .int .i64 k, .int .i64 pl] h = some (.tup [q, .bool (moveL r c xs k pl)], h') ∧ OwnSl h.length h' q (playedL r c xs k pl) ∧ Keep h.length h h' := by
  obtain ⟨n, rfl⟩ : ∃ n, N = n + 1 := ⟨N - 1, by omega⟩
  obtain ⟨h1, e1, k1⟩ := specMoveOk_calls g lf n (by omega) r c k pl hp hl hf hlf
  have : W (CL g lf (n + 1) fn_spec_Played [.int .i64 r, .int .i64 c, p, .int .i64 k, .int .i64 pl] h) fun v h' => ∃ q, v = .tup [q, .bool (moveL r c xs k pl)] ∧ OwnSl h.length h' q (playedL r c xs k pl) ∧ Keep h.length h h' := by
    rw [spec_Played.call_eq]
    unfold spec_Played.main
    simp only [env_C, env_buildSlice, env_store, env_un, env_indexAddr, env_append]
    unfold playedL
    cases hm : moveL r c xs k pl with
    | false =>
      rw [hm] at e1
      repeat (first | with_reducible refine wT ?_ | with_reducible refine wnF ?_ | with_reducible refine wrB ?_ | with_reducible refine wbd (by assumption) ?_ | (refine wempty fun q h2 o2 k2 => ?_) | with_reducible refine wresO (by assumption) ?_ | dsimp only)
      skip
      exact W.ret ⟨_, rfl, o2.mono k1.1, k1.trans (k2.mono k1.1)⟩
    | true =>
      rw [hm] at e1
      obtain ⟨K, rfl, hK⟩ := moveL_cell hm
      obtain ⟨v, q, h2, e2, e3, o2, k2⟩ := copy_all (hp.keep k1) (by omega) (by omega)
      repeat (first | with_reducible refine wF ?_ | with_reducible refine wnT ?_ | with_reducible refine wrB ?_ | with_reducible refine wbd (by assumption) ?_ | (refine wst o2 hK fun h3 o3 k3 l3 a e4 => ?_) | with_reducible refine wresO (by assumption) ?_ | dsimp only | simp only [env_C, env_Y, env_g, env_lf, env_pick, env_alloc, env_box, env_build, env_buildSlice, env_load, env_store, env_ptr, env_bin, env_un, env_conv, env_make, env_slice, env_fieldAddr, env_field, env_indexAddr, env_index, env_extract, env_len, env_append, env_max, env_min, env_makeMap, env_lookup, env_update, env_clos])
      skip
      exact W.ret ⟨_, rfl, o3.mono k1.1, k1.trans ((k2.trans k3).mono k1.1)⟩
  obtain ⟨_, h', e, q, rfl, o, k⟩ := this
  exact ⟨q, h', e, o, k⟩

/-! ### the solver -/
end Go.Proofs.YtocjdekcmhgjeaaDoor

/- The model's chapter 3, on: the winning cells and the moves played on. -/
set_option maxRecDepth 20000
namespace Go.Proofs.YtocjdekcmhgjeaaDoor
open Go Go.Ip G

/-! ### two lists at once: one between two marks, that is written to, and one apart from it, that grows -/
def Apart (b0 b1 b2 : Nat) (h : PHeap) (q : PV) (ys : List Int) : Prop := ∃ n m, OwnB n m h q ys ∧ b0 ≤ n ∧ (m ≤ b1 ∨ b2 ≤ n) ∧ m ≤ h.length
theorem Apart.keep {b0 b1 b2 : Nat} {h h' : PHeap} {q : PV} {ys : List Int} (s : Apart b0 b1 b2 h q ys) (k : Keep h.length h h') : Apart b0 b1 b2 h' q ys := by
  obtain ⟨n, m, o, h1, h2, h3⟩ := s
  exact ⟨n, m, o.keep (k.mono h3), h1, h2, Nat.le_trans h3 k.1⟩
theorem Apart.only {b0 b1 b2 : Nat} {h h' : PHeap} {q : PV} {ys : List Int} (s : Apart b0 b1 b2 h q ys) (k : Only b1 b2 h h') : Apart b0 b1 b2 h' q ys := by
  obtain ⟨n, m, o, h1, h2, h3⟩ := s
  exact ⟨n, m, o.only k (h2.imp id id), h1, h2, by rw [k.1]; exact h3⟩
theorem Apart.sl {b0 b1 b2 : Nat} {h : PHeap} {q : PV} {ys : List Int} (s : Apart b0 b1 b2 h q ys) : OwnSl b0 h q ys := by
  obtain ⟨n, m, o, h1, h2, h3⟩ := s
  exact o.sl.mono h1

theorem OwnB.append {n m : Nat} {h : PHeap} {p : PV} {xs : List Int} (s : OwnB n m h p xs) (hn : n ≤ h.length) (x : Int) (hl : xs.length + 1 ≤ 2 ^ 36) :
    ∃ v p' h', buildSliceP Tryd.prog 23 1 [(0, .int .i64 x)] h = some v ∧ appendP Tryd.prog 23 23 p v.1 v.2 = some (p', h') ∧ OwnSl h.length h' p' (xs ++ [x]) ∧ Keep n h h' ∧
      ∀ a b r zs, OwnB a b h r zs → (b ≤ n ∨ m ≤ a) → OwnB a b h' r zs := by
  have hb : buildSliceP Tryd.prog 23 1 [(0, .int .i64 x)] h = some (.sl h.length 0 1, h ++ [.own 1 [.int .i64 x]]) := by
    simp [buildSliceP, tyElem, tySize, tyZero, repeatCells, fillP, PV.cells, setCells]
  have hsrc : srcP (h ++ [.own 1 [.int .i64 x]]) 1 (.sl h.length 0 1) = some (1, [.int .i64 x]) := by
    simp [srcP, cellsAt, PObj.get]
  rcases s with ⟨rfl, rfl⟩ | ⟨id, h1, h2, rfl, h3⟩
  · refine ⟨_, .sl (h.length + 1) 0 1, h ++ [.own 1 [.int .i64 x]] ++ [.own 1 [.int .i64 x]], hb, ?_, .inr ⟨h.length + 1, by omega, rfl, ?_⟩, ?_, ?_⟩
    · simp [appendP, tyElem, tySize, tySmall, hsrc]
    · rw [List.getElem?_append_right (by simp)]; simp
    · rw [List.append_assoc]; exact Keep.append _ _ _ hn
    · rintro a b r zs (⟨rfl, rfl⟩ | ⟨i, i1, i2, rfl, i3⟩) _
      · exact .inl ⟨rfl, rfl⟩
      · refine .inr ⟨i, i1, i2, rfl, ?_⟩
        have hi : i < h.length := (List.getElem?_eq_some_iff.1 i3).1
        rw [List.append_assoc, List.getElem?_append_left hi]; exact i3
  · have hid : id < h.length := (List.getElem?_eq_some_iff.1 h3).1
    have h3' : (h ++ [PObj.own 1 [.int .i64 x]])[id]? = some (.own 1 (xs.map (.int .i64))) := by rw [List.getElem?_append_left hid]; exact h3
    refine ⟨_, .sl (h.length + 1) 0 (xs.length + 1), ((h ++ [PObj.own 1 [.int .i64 x]]).set id .dead ++ [PObj.own 1 (xs.map (.int .i64) ++ [.int .i64 x])]), hb, ?_, .inr ⟨h.length + 1, by omega, by simp, ?_⟩, ?_, ?_⟩
    · simp [appendP, tyElem, tySize, tySmall, hsrc, h3', hl]
    · rw [List.getElem?_append_right (by simp)]; simp
    · exact ((Keep.append n h _ hn).trans (Keep.set n _ id .dead h1)).trans (Keep.append _ _ _ (by simp; omega))
    · rintro a b r zs (⟨rfl, rfl⟩ | ⟨i, i1, i2, rfl, i3⟩) hd
      · exact .inl ⟨rfl, rfl⟩
      · refine .inr ⟨i, i1, i2, rfl, ?_⟩
        have hi : i < h.length := (List.getElem?_eq_some_iff.1 i3).1
        rw [List.getElem?_append_left (by simp; omega), List.getElem?_set_ne (by omega), List.getElem?_append_left hi]; exact i3

section
variable {Q : PV → PHeap → Prop} {h : PHeap} {p r : PV} {xs zs : List Int} {b0 b1 b2 : Nat}
theorem wstB (s : OwnB b1 b2 h p xs) {i : Nat} (hi : i < xs.length) {x : Int} {F : PV → PHeap → Res}
    (hf : ∀ h', OwnB b1 b2 h' p (xs.set i x) → Only b1 b2 h h' → ∀ a, W (F a h') Q) :
    W ((indexAddrP Tryd.prog 23 p (.int .i64 (i : Int))).bind fun a => (storeP Tryd.prog 3 a (.int .i64 x) h).bind fun h' => F a h') Q := by
  obtain ⟨a, h', e1, e2, o, k⟩ := s.store hi x
  refine wbd e1 ?_
  show W ((storeP Tryd.prog 3 a (.int .i64 x) h).bind fun h' => F a h') Q
  exact wbd e2 (hf h' o k a)
end

/-! ### winning cells -/
variable (g : Nat → PV) (lf n : Nat)

/-! ### played on -/
end Go.Proofs.YtocjdekcmhgjeaaDoor

/- Chapter 3's laws over what the program's functions are asked to compute: the draws, and the exact laws. -/
set_option maxRecDepth 20000
namespace Go.Proofs.YtocjdekcmhgjeaaDoor
open Go Go.Ip G

def PlayedOk (g : Nat → PV) (lf : Nat) : Prop := ∀ (N : Nat), 40 ≤ N → ∀ (r c k pl : Int) {xs : List Int} {p : PV} {h : PHeap}, TabOk g h → IntSl .i64 h p xs → xs.length ≤ 2 ^ 35 → xs.length < lf →
  ∃ q h', CL g lf N fn_impl_Played [.int .i64 r, .int .i64 c, p, .int .i64 k, .int .i64 pl] h = some (.tup [q, .bool (moveL r c xs k pl)], h') ∧ OwnSl h.length h' q (playedL r c xs k pl) ∧ Keep h.length h h'
def WinnerOk (g : Nat → PV) (lf : Nat) : Prop := ∀ (N : Nat), 40 ≤ N → ∀ (r c t : Int) {xs : List Int} {p : PV} {h : PHeap}, TabOk g h → IntSl .i64 h p xs → xs.length ≤ 2 ^ 35 → xs.length < lf →
  ∃ h', CL g lf N fn_impl_WinnerOf [.int .i64 r, .int .i64 c, p, .int .i64 t] h = some (.int .i64 (winL r c xs t), h') ∧ Keep h.length h h'
theorem W.yes {x : Res} (hx : W x fun v _ => v = .bool true) : ∃ h', x = some (.bool true, h') := by
  obtain ⟨_, h', e, rfl⟩ := hx; exact ⟨h', e⟩
section
variable {Q : PV → PHeap → Prop} {b : Bool} {f : PV → Res}
theorem wneqBB (hf : W (f (.bool false)) Q) : W ((binP Tryd.prog .neq 4 (.bool b) (.bool b)).bind f) Q := wbd (by rw [neqB]; simp) hf
theorem weqlBB (hf : W (f (.bool true)) Q) : W ((binP Tryd.prog .eql 4 (.bool b) (.bool b)).bind f) Q := wbd (by rw [eqlB]; simp) hf
/-- A call, with the heap's mark kept. -/
theorem wcv {x : Res} {v : PV} {m : Nat} {h0 h : PHeap} (c : ∃ h', x = some (v, h') ∧ Keep h.length h h') (k : Keep m h0 h) (hm : m ≤ h0.length) {f : PV × PHeap → Res} (hf : ∀ h', Keep m h0 h' → W (f (v, h')) Q) : W (x.bind f) Q := by
  obtain ⟨h', e, k'⟩ := c
  exact wbd e (hf h' (k.trans (k'.mono (Nat.le_trans hm k.1))))
theorem wcl {x : Res} {L : List Int} {m : Nat} {h0 h : PHeap} (c : ∃ q h', x = some (q, h') ∧ OwnSl h.length h' q L ∧ Keep h.length h h') (k : Keep m h0 h) (hm : m ≤ h0.length) {f : PV × PHeap → Res} (hf : ∀ q h', OwnSl h.length h' q L → Fix h'.length h' q L → Keep m h0 h' → W (f (q, h')) Q) : W (x.bind f) Q := by
  obtain ⟨q, h', e, o, k'⟩ := c
  exact wbd e (hf q h' o o.int.fix (k.trans (k'.mono (Nat.le_trans hm k.1))))
end
theorem Fix.re {m : Nat} {h h' : PHeap} {p : PV} {xs : List Int} (s : Fix m h p xs) (k : Keep m h h') (hm : m ≤ h.length) : Fix h'.length h' p xs := fun h2 k2 => s h2 (k.trans (k2.mono (Nat.le_trans hm k.1)))
theorem tabF {g : Nat → PV} {h h1 : PHeap} (t : TabOk g h) (k : Keep h.length h h1) : ∀ h2, Keep h1.length h1 h2 → TabOk g h2 := fun _ k2 => (t.keep k).keep k2

variable (g : Nat → PV) (lf n : Nat)

/-! ### the draws -/
theorem sided_W {h : PHeap} {id m : Nat} (N : Nat) (hN : 5 ≤ N) (k : Int) (hr : Rd h id m) (hm : m ≤ 700000) (hk : k ≤ 400000) (hk0 : 1 ≤ k) (hlf : 20 < lf) :
    ∃ (r c : Int) (q : PV) (xs : List Int) (pl : Int) (h' : PHeap), CL g lf N fn_spec_l20Sided [.ptr id 0, .int .i64 k] h = some (.tup [.int .i64 r, .int .i64 c, q, .int .i64 pl], h') ∧ Rd h' id (m + 32) ∧ Keep id h h' ∧ OwnSl (id + 1) h' q xs ∧ xs.length ≤ 10 ∧ 1 ≤ pl ∧ pl ≤ 4 := by
  obtain ⟨n, rfl⟩ : ∃ n, N = n + 1 := ⟨N - 1, by omega⟩
  rw [spec_l20Sided.call_eq]
  obtain ⟨r, c, q, xs, h1, e1, r1, k1, o1, hl, hrc⟩ := position_calls g lf n (by omega) k hr (by omega) hk hk0 hlf
  obtain ⟨v1, h2, e2, r2, o2, a1, a2, _⟩ := pick_calls g lf n (by omega) 2 r1 (by omega) (by omega)
  obtain ⟨v2, h3, e3, r3, o3, b1, b2, _⟩ := pick_calls g lf n (by omega) 60 r2 (by omega) (by omega)
  have a2' := a2 (by omega)
  have b2' := b2 (by omega)
  have hq := tdiv_range b1 (show (1 : Int) ≤ 59 by decide)
  have hq1 : v2.tdiv 59 ≤ 1 := by
    obtain ⟨V, rfl⟩ := Int.eq_ofNat_of_zero_le b1
    have : ((V : Int).tdiv 59) = ((V / 59 : Nat) : Int) := rfl
    rw [this]; omega
  have f1 : binP Tryd.prog .add 3 (.int .i64 1) (.int .i64 v1) = some (.int .i64 (1 + v1)) := by rw [bin_add, wr (by omega)]
  have f2 : binP Tryd.prog .quo 3 (.int .i64 v2) (.int .i64 59) = some (.int .i64 (v2.tdiv 59)) := by rw [bin_quo (by decide), wr (by omega)]
  have f3 : binP Tryd.prog .mul 3 (.int .i64 (v2.tdiv 59)) (.int .i64 2) = some (.int .i64 (v2.tdiv 59 * 2)) := by rw [bin_mul, wr (by omega)]
  have f4 : binP Tryd.prog .add 3 (.int .i64 (1 + v1)) (.int .i64 (v2.tdiv 59 * 2)) = some (.int .i64 (1 + v1 + v2.tdiv 59 * 2)) := by rw [bin_add, wr (by omega)]
  have ho := (o1.keepOnly o2 (by omega)).keepOnly o3 (by omega)
  refine ⟨r, c, q, xs, 1 + v1 + v2.tdiv 59 * 2, h3, ?_, r3.mono (by omega), (k1.trans o2.keep).trans o3.keep, ho, hl, by omega, by omega⟩
  unfold spec_l20Sided.main
  exact bd e1 (bd extract_tup (bd extract_tup (bd extract_tup (bd e2 (bd f1 (bd e3 (bd f2 (bd f3 (bd f4 (bd res_int (bd res_int (bd o1.res (bd res_int rfl)))))))))))))

theorem few_W {h : PHeap} {id m : Nat} (N : Nat) (hN : 6 ≤ N) (k : Int) (hr : Rd h id m) (hm : m ≤ 600000) (hlf : 20 < lf) :
    W (CL g lf N fn_spec_l20Few [.ptr id 0, .int .i64 k] h) fun v h' => ∃ (r c : Int) (q : PV) (xs : List Int) (pl : Int), v = .tup [.int .i64 r, .int .i64 c, q, .int .i64 pl] ∧ Keep id h h' ∧ OwnSl (id + 1) h' q xs ∧ xs.length ≤ 10 ∧ 1 ≤ pl ∧ pl ≤ 4 := by
  obtain ⟨n, rfl⟩ : ∃ n, N = n + 1 := ⟨N - 1, by omega⟩
  obtain ⟨r, c, q, xs, pl, h1, e1, r1, k1, o1, hl, hp1, hp2⟩ := sided_W g lf n (by omega) 14 hr (by omega) (by omega) (by omega) hlf
  rw [spec_l20Few.call_eq]
  unfold spec_l20Few.main
  simp only [env_C, env_lf, env_extract]
  repeat (first | with_reducible refine wx0 ?_ | with_reducible refine wx1 ?_ | with_reducible refine wx2 ?_ | with_reducible refine wx3 ?_ | with_reducible refine wbd (by assumption) ?_ | dsimp only)
  refine loopW (fun m' s => ∃ (i fr : Nat) (zs : List Int) (h2 : PHeap), s = spec_l20Few.st0 (.ptr id 0) (.int .i64 k) (.int .i64 r) (.int .i64 c) q (.int .i64 pl) (.int .i64 (fr : Int)) (.int .i64 (i : Int)) h2 ∧ i + m' = xs.length ∧ fr ≤ i ∧ zs.length = xs.length ∧ Rd h2 id (m + 32 + i) ∧ OwnSl (id + 1) h2 q zs ∧ Keep id h h2) ?_ lf xs.length _ (by omega) ⟨0, 0, xs, h1, rfl, by omega, Nat.le_refl _, rfl, r1, o1, k1⟩
  rintro n1 m1 s ⟨i, fr, zs, h2, rfl, him, hfr, hz, r2, o2, k2⟩ next
  rw [spec_l20Few.body0_eq]
  unfold spec_l20Few.body0
  simp only [env_C, env_load, env_store, env_bin, env_indexAddr, env_len]
  have hzl := wlen (Q := fun _ _ => True) o2.int (f := fun _ => some (.nilsl, [])) ⟨_, _, rfl, trivial⟩
  clear hzl
  have hlen := o2.int.len'
  rw [hz] at hlen
  cases m1 with
  | zero =>
    repeat (first | with_reducible refine wF ?_ | with_reducible refine wrI ?_ | with_reducible refine wbd (by assumption) ?_ | with_reducible refine wlssF (by omega) ?_ | with_reducible refine wresO (by assumption) ?_ | rw [kLoop_exit] | rw [spec_l20Few.after0_se0_0_1_8_9_10_11_12_13_24])
    exact W.ret ⟨r, c, q, zs, pl, rfl, k2, o2, by omega, hp1, hp2⟩
  | succ m1 =>
    have hi : i < zs.length := by omega
    repeat (first | with_reducible refine wT ?_ | with_reducible refine wbd (by assumption) ?_ | (with_reducible refine wat o2.int hi fun a hl => ?_) | with_reducible refine wlssT (by omega) ?_)
    refine weql (fun e => ?_) (fun e => ?_)
    · repeat (first | with_reducible refine wT ?_ | with_reducible refine wadd1 (by omega) ?_)
      refine wgtr (fun e2 => ?_) (fun e2 => ?_)
      · obtain ⟨v, h3, e3, r3, ok3, a1, a2, _⟩ := pick_calls g lf n (by omega) 2 r2 (by omega) (by omega)
        have a2' := a2 (by omega)
        have o3 := o2.keepOnly ok3 (by omega)
        repeat (first | with_reducible refine wT ?_ | with_reducible refine wbd (by assumption) ?_ | (refine wst o3 hi fun h4 o4 k4 l4 a4 e4 => ?_) | with_reducible refine wadd1 (by omega) ?_)
        exact next _ _ (Nat.lt_succ_self m1) ⟨i + 1, fr + 1, _, h4, rfl, by omega, by omega, by rw [List.length_set]; exact hz, (r3.keep k4 (by omega)).mono (by omega), o4, (k2.trans ok3.keep).trans (k4.mono (by omega))⟩
      · repeat (first | with_reducible refine wF ?_ | with_reducible refine wadd1 (by omega) ?_)
        exact next _ _ (Nat.lt_succ_self m1) ⟨i + 1, fr + 1, zs, h2, rfl, by omega, by omega, hz, r2.mono (by omega), o2, k2⟩
    · repeat (first | with_reducible refine wF ?_ | with_reducible refine wadd1 (by omega) ?_)
      exact next _ _ (Nat.lt_succ_self m1) ⟨i + 1, fr, zs, h2, rfl, by omega, by omega, hz, r2.mono (by omega), o2, k2⟩

end Go.Proofs.YtocjdekcmhgjeaaDoor

/- The laws of chapter 3 over what the program's functions are asked to compute: promises 16, 17, 18 and 21. -/
set_option maxRecDepth 20000
namespace Go.Proofs.YtocjdekcmhgjeaaDoor
open Go Go.Ip G

variable (g : Nat → PV) (lf n : Nat)

end Go.Proofs.YtocjdekcmhgjeaaDoor

/- The laws of chapter 3 over what the program's functions are asked to compute: promises 18, 19, 20 and 22. -/
set_option maxRecDepth 20000
namespace Go.Proofs.YtocjdekcmhgjeaaDoor
open Go Go.Ip G

theorem Fix.get {b : Nat} {h h' : PHeap} {p : PV} {xs : List Int} (s : Fix b h p xs) (k : Keep b h h') : IntSl .i64 h' p xs := s h' k
theorem sorted_get {L : List Int} (h : L.Pairwise (· < ·)) : ∀ i (hi : i + 1 < L.length), L[i] < L[i + 1] := fun i hi => List.pairwise_iff_getElem.1 h i (i + 1) (by omega) hi (by omega)
variable (g : Nat → PV) (lf n : Nat)

end Go.Proofs.YtocjdekcmhgjeaaDoor

/- The boards that the model draws for chapters 4 and 5, and the draws. -/
set_option maxRecDepth 20000
namespace Go.Proofs.YtocjdekcmhgjeaaDoor
open Go Go.Ip Go.RowKit G

variable (g : Nat → PV) (lf n : Nat)

end Go.Proofs.YtocjdekcmhgjeaaDoor

/- Stolen plans and pairs that answer: what chapter 4's functions tell, and what holds of it. No program text. -/
set_option maxRecDepth 20000
namespace Go.Proofs.YtocjdekcmhgjeaaDoor
open Go Go.Ip G

/-! ### pairs -/
/-! ### pairs that are shared -/
/-! ### openings -/
def freeL (R C : Nat) : List Int := List.replicate (R * C) 0
end Go.Proofs.YtocjdekcmhgjeaaDoor

/- Fillings: how many of them a player wins, which cells matter, and that stones on cells that do not matter change nothing. No program text. -/
set_option maxRecDepth 20000
namespace Go.Proofs.YtocjdekcmhgjeaaDoor
open Go Go.Ip G

/-! ### counting over all fillings of some cells -/
/-! ### what a stone more is worth -/
/-! ### each filling is won by one -/
/-- A position whose free cells are those of a list. -/
structure Cover (R C a b : Nat) (l : List Nat) : Prop where
  pos : Pos R C a b
  nodup : l.Nodup
  free : ∀ j, j ∈ l ↔ j < R * C ∧ (a ||| b).testBit j = false
theorem Cover.put {R C a b c : Nat} {l : List Nat} (h : Cover R C a b (c :: l)) (t : Nat) : Cover R C (putA t c a) (putB t c b) l := by
  have hc := (h.free c).1 (List.mem_cons_self ..)
  have hnd := List.nodup_cons.1 h.nodup
  refine ⟨h.pos.put hc.1 hc.2, hnd.2, fun j => ?_⟩
  rw [put_bit, Bool.or_eq_false_iff, decide_eq_false_iff_not]
  constructor
  · intro hj
    have := (h.free j).1 (List.mem_cons_of_mem _ hj)
    exact ⟨this.1, this.2, fun e => hnd.1 (e ▸ hj)⟩
  · rintro ⟨h1, h2, h3⟩
    exact (List.mem_cons.1 ((h.free j).2 ⟨h1, h2⟩)).resolve_left h3
/-! ### the free cells of a set, as a list -/
/-! ### played to the last cell -/
end Go.Proofs.YtocjdekcmhgjeaaDoor

/- What chapter 5's functions tell of a position (countL, pivotL, mattersL, deadL), and what holds of them. No program text. -/
set_option maxRecDepth 20000
namespace Go.Proofs.YtocjdekcmhgjeaaDoor
open Go Go.Ip G

section
variable {R C : Nat} {xs : List Int} (hb : posB (R : Int) (C : Int) xs = true) (hS : Sides (R : Int) (C : Int) R C xs)
include hS
omit hS
include hb
include hS
/-! ### turned and mirrored -/
/-! ### dead cells -/
end

end Go.Proofs.YtocjdekcmhgjeaaDoor

/- Carriers and threats: what holds of positions whose free cells outside a set are given to the other player. No program text. -/
set_option maxRecDepth 20000
namespace Go.Proofs.YtocjdekcmhgjeaaDoor
open Go Go.Ip G

section
variable {R C : Nat} {xs ys : List Int} (hb : posB (R : Int) (C : Int) xs = true) (hb' : posB (R : Int) (C : Int) ys = true)
include hb
theorem sides_pos : Sides (R : Int) (C : Int) R C xs := by
  obtain ⟨R', C', hS⟩ := sides_of hb
  have e1 : R' = R := by have := hS.1; omega
  have e2 : C' = C := by have := hS.2.1; omega
  rw [e1, e2] at hS; exact hS
include hb'
end

section
variable {xs : List Int} {P : Nat} (hP : P = 1 ∨ P = 2)
include hP
end
section
variable {R C P : Nat} {xs : List Int} (hb : posB (R : Int) (C : Int) xs = true) (hP : P = 1 ∨ P = 2)
include hb hP
end

end Go.Proofs.YtocjdekcmhgjeaaDoor

/- The program's sets of cells: the cells with a stone, the sides, growing and gaps, walked through with the rules of XW. -/
set_option maxRecDepth 20000
namespace Go.Proofs.YtocjdekcmhgjeaaDoor
open Go Go.Ip G

/-! ### sets, without program text -/
theorem bit_of_ne {w : Nat} (h : w ≠ 0) : ∃ j, w.testBit j = true := by
  apply Classical.byContradiction
  intro hh
  refine h (Nat.eq_of_testBit_eq fun j => ?_)
  rw [Nat.zero_testBit]
  cases e : w.testBit j with
  | false => rfl
  | true => exact (hh ⟨j, e⟩).elim

theorem orAll_or : ∀ (L : List Int) (w : Nat), orAll w L = w ||| orAll 0 L
  | [], w => by simp [orAll]
  | e :: l, w => by rw [orAll, orAll_or l, orAll, orAll_or l (0 ||| _), Nat.zero_or, Nat.or_assoc]

theorem wide_step {R C S : Nat} (hB : BoardOf R C) : ∀ (m i w : Nat), i + m = R * C → wideFrom R C S m i w = stepFrom (2 ^ 9 - 1) S i ((masksN R C).drop i) w
  | 0, i, w, h => by rw [List.drop_eq_nil_of_le (by rw [masksN_length]; omega)]; rfl
  | m + 1, i, w, h => by
    have hi : i < (masksN R C).length := by rw [masksN_length]; omega
    have hm : (masksN R C)[i] = orAll 0 (nearN R C i) := by simp [masksN]
    have hlt : (masksN R C)[i] < 2 ^ 9 := masksN_lt hB _ (List.getElem_mem hi)
    have ha : (masksN R C)[i] &&& (2 ^ 9 - 1) = (masksN R C)[i] := by rw [Nat.and_two_pow_sub_one_eq_mod, Nat.mod_eq_of_lt hlt]
    rw [wideFrom, List.drop_eq_getElem_cons hi, stepFrom, Nat.and_one_is_mod, wide_step hB m (i + 1) _ (by omega), ha, hm]
    congr 1
    by_cases e : S >>> i % 2 = 1
    · rw [if_pos e, if_neg (by omega), orAll_or]
    · rw [if_neg e, if_pos (by omega)]

theorem wide_bit {R C S : Nat} (hB : BoardOf R C) (j : Nat) : (wideN R C S).testBit j = true ↔ S.testBit j = true ∨ ∃ k, S.testBit k = true ∧ Adj (masksN R C) k j := by
  unfold wideN
  rw [wide_step hB _ 0 S (by omega), List.drop_zero, stepFrom_bit]
  refine or_congr_right ⟨fun ⟨i, h1, h2, _⟩ => ⟨i, by simpa using h1, h2⟩, fun ⟨i, h1, h2⟩ => ⟨i, by simpa using h1, h2, ?_⟩⟩
  have := (adj_in hB h2).2
  have h9 := hB.2.2.2.2
  rw [Nat.testBit_two_pow_sub_one]; simp; omega

theorem wide_lt {R C S : Nat} (hB : BoardOf R C) (hS : S < 2 ^ 9) : wideN R C S < 2 ^ 9 := by
  obtain ⟨h1, h2, h3, h4, h9⟩ := hB; exact wideFrom_lt h1 h2 h3 h4 h9 _ _ _ (by omega) hS

theorem grown_is {M : List Nat} {S T X : Nat} (hS : S < 2 ^ 9) (hT : T < 2 ^ 9) (h0 : ∀ j, S.testBit j = true → X.testBit j = true) (hr : ∀ j, X.testBit j = true → Reach M (S ||| T) S j)
    (hc : ∀ k j, X.testBit k = true → Adj M k j → T.testBit j = true → X.testBit j = true) : X = growN M (S ||| T) S := by
  apply Nat.eq_of_testBit_eq
  intro j
  rw [Bool.eq_iff_iff, grow_bit (Nat.or_lt_two_pow hS hT)]
  refine ⟨hr j, fun h => ?_⟩
  induction h with
  | start h _ => exact h0 _ h
  | step _ ha hs ih =>
    rw [Nat.testBit_or, Bool.or_eq_true] at hs
    rcases hs with hs | hs
    · exact h0 _ hs
    · exact hc _ _ ih ha hs

theorem grown_in {M : List Nat} {own first : Nat} : growN M ((first &&& own) ||| own) (first &&& own) = growN M own first := by
  have : (first &&& own) ||| own = own := by
    apply Nat.eq_of_testBit_eq; intro j
    rw [Nat.testBit_or, Nat.testBit_and]; cases first.testBit j <;> cases own.testBit j <;> rfl
  rw [this]
  unfold growN
  rw [Nat.and_assoc, Nat.and_self]

variable (g : Nat → PV) (lf n : Nat)

/-! ### the program -/
theorem playerOk_W (N : Nat) (hN : 1 ≤ N) (h : PHeap) (p : Int) : CL g lf N fn_impl_playerOk [.int .i64 p] h = some (.bool (playerB p), h) := by
  obtain ⟨n, rfl⟩ : ∃ n, N = n + 1 := ⟨N - 1, by omega⟩
  have : W (CL g lf (n + 1) fn_impl_playerOk [.int .i64 p] h) fun v h' => v = .bool (playerB p) ∧ h' = h := by
    rw [impl_playerOk.call_eq]
    unfold impl_playerOk.main
    simp only [env_pick, env_bin]
    refine weql (fun e => ?_) (fun e => ?_)
    · repeat (first | with_reducible refine wg0 rfl ?_ | with_reducible refine wpT ?_ | with_reducible refine wsm ?_ | with_reducible refine wrB ?_ | dsimp only)
      exact W.ret ⟨by subst e; rfl, rfl⟩
    · repeat (first | with_reducible refine wg1 rfl ?_ | with_reducible refine wpv ?_ | with_reducible refine wsm ?_ | dsimp only)
      refine weql (fun e2 => ?_) (fun e2 => ?_)
      · repeat (first | with_reducible refine wpF ?_ | with_reducible refine wrB ?_)
        exact W.ret ⟨by subst e2; rfl, rfl⟩
      · repeat (first | with_reducible refine wpF ?_ | with_reducible refine wrB ?_)
        exact W.ret ⟨by rw [show playerB p = false by unfold playerB; exact decide_eq_false (by omega)], rfl⟩
  obtain ⟨_, _, e, rfl, rfl⟩ := this
  exact e

theorem setOf_W {xs : List Int} {p : PV} {h : PHeap} (what : Int) (hp : IntSl .i64 h p xs) (hl : xs.length ≤ 20) (N : Nat) (hN : 1 ≤ N) (hlf : 1000 < lf) :
    CL g lf N fn_impl_setOf [p, .int .i64 what] h = some (.int .i64 (setL xs what : Int), h) := by
  obtain ⟨n, rfl⟩ : ∃ n, N = n + 1 := ⟨N - 1, by omega⟩
  have : W (CL g lf (n + 1) fn_impl_setOf [p, .int .i64 what] h) fun v h' => v = .int .i64 (setL xs what : Int) ∧ h' = h := by
    rw [impl_setOf.call_eq]
    unfold impl_setOf.main
    simp only [env_lf, env_len]
    repeat (first | with_reducible refine wlen (by assumption) ?_)
    refine loopW (fun m s => ∃ i w : Nat, s = impl_setOf.st0 (.int .i64 what) (.int .i64 (w : Int)) p (.int .i64 (xs.length : Int)) (.int .i64 (i : Int)) h ∧ i + m = xs.length ∧ w < 2 ^ 30 ∧ setFrom what i (xs.drop i) w = setL xs what) ?_ lf xs.length _ (by omega) ⟨0, 0, rfl, by omega, by decide, rfl⟩
    rintro n1 m s ⟨i, w, rfl, him, hw, hset⟩ next
    rw [impl_setOf.body0_eq]
    unfold impl_setOf.body0
    simp only [env_load, env_bin, env_indexAddr]
    by_cases hi : i < xs.length
    · have hdx : xs.drop i = xs[i] :: xs.drop (i + 1) := List.drop_eq_getElem_cons hi
      have h30 : 1 <<< i < 2 ^ 30 := by rw [Nat.one_shiftLeft]; exact Nat.pow_lt_pow_right (by decide) (by omega)
      rw [hdx, setFrom] at hset
      repeat (first | with_reducible refine wT ?_ | with_reducible refine wbd (by assumption) ?_ | (with_reducible refine wat hp hi fun a hl => ?_) | with_reducible refine wlssT (by omega) ?_)
      refine weql (fun e => ?_) (fun e => ?_)
      · repeat (first | with_reducible refine wT ?_ | with_reducible refine wadd1 (by omega) ?_ | with_reducible refine wshl (by omega) ?_ | with_reducible refine wor (by omega) (by omega) ?_)
        rw [if_pos e] at hset
        exact next _ _ (show m - 1 < m by omega) ⟨i + 1, _, rfl, by omega, Nat.or_lt_two_pow hw h30, hset⟩
      · repeat (first | with_reducible refine wF ?_ | with_reducible refine wadd1 (by omega) ?_)
        rw [if_neg e] at hset
        exact next _ _ (show m - 1 < m by omega) ⟨i + 1, _, rfl, by omega, hw, hset⟩
    · rw [List.drop_eq_nil_of_le (by omega), setFrom] at hset
      repeat (first | with_reducible refine wF ?_ | with_reducible refine wrI ?_ | with_reducible refine wlssF (by omega) ?_ | rw [kLoop_exit] | rw [impl_setOf.after0_se0_1_5_8_9_10_11])
      exact W.ret ⟨by rw [hset], rfl⟩
  obtain ⟨_, _, e, rfl, rfl⟩ := this
  exact e

theorem sidesOf_W {R C P : Nat} (hB : BoardOf R C) (hP : P = 1 ∨ P = 2) (N : Nat) (hN : 1 ≤ N) (hlf : 1000 < lf) (h : PHeap) :
    CL g lf N fn_impl_sidesOf [.int .i64 (R : Int), .int .i64 (C : Int), .int .i64 (P : Int)] h = some (.tup [.int .i64 (sideN R C P false : Int), .int .i64 (sideN R C P true : Int)], h) := by
  obtain ⟨n, rfl⟩ : ∃ n, N = n + 1 := ⟨N - 1, by omega⟩
  have : W (CL g lf (n + 1) fn_impl_sidesOf [.int .i64 (R : Int), .int .i64 (C : Int), .int .i64 (P : Int)] h) fun v h' => v = .tup [.int .i64 (sideN R C P false : Int), .int .i64 (sideN R C P true : Int)] ∧ h' = h := by
    obtain ⟨h1, h2, h3, h4, h9⟩ := id hB
    rw [impl_sidesOf.call_eq]
    unfold impl_sidesOf.main
    simp only [env_lf, env_bin]
    repeat (first | with_reducible refine wmulN (by omega) ?_)
    refine loopW (fun m s => ∃ i w1 w2 : Nat, s = impl_sidesOf.st0 (.int .i64 (R : Int)) (.int .i64 (C : Int)) (.int .i64 (P : Int)) (.int .i64 (w1 : Int)) (.int .i64 (w2 : Int)) (.int .i64 ((R * C : Nat) : Int)) (.int .i64 (i : Int)) h ∧ i + m = R * C ∧ w1 < 2 ^ 9 ∧ w2 < 2 ^ 9 ∧ sideFrom R C P false m i w1 = sideN R C P false ∧ sideFrom R C P true m i w2 = sideN R C P true) ?_ lf (R * C) _ (by omega) ⟨0, 0, 0, rfl, by omega, by decide, by decide, rfl, rfl⟩
    rintro n1 m s ⟨i, w1, w2, rfl, him, hw1, hw2, hs1, hs2⟩ next
    rw [impl_sidesOf.body0_eq]
    unfold impl_sidesOf.body0
    simp only [env_bin]
    cases m with
    | zero =>
      rw [sideFrom] at hs1 hs2
      repeat (first | with_reducible refine wF ?_ | with_reducible refine wrI ?_ | with_reducible refine wlssF (by omega) ?_ | rw [kLoop_exit] | rw [impl_sidesOf.after0_se0_0_1_2_8_9_15_16_17])
      exact W.ret ⟨by rw [hs1, hs2], rfl⟩
    | succ m =>
      have hsl := shl_lt (show i < 9 by omega)
      rw [sideFrom] at hs1 hs2
      simp only [cond_true, cond_false, decide_eq_true_eq] at hs1 hs2
      obtain ⟨x, hx⟩ : ∃ x, x = atSide C P i := ⟨_, rfl⟩
      obtain ⟨y, hy⟩ : ∃ y, y = endSide R C P := ⟨_, rfl⟩
      rw [← hx] at hs1 hs2
      rw [← hy] at hs2
      have l1 := Nat.or_lt_two_pow hw1 hsl
      have l2 := Nat.or_lt_two_pow hw2 hsl
      rcases hP with rfl | rfl
      · have hx' : x = i / C := hx
        have hy' : y = R - 1 := hy
        by_cases a0 : x = 0 <;> by_cases a1 : x = y 
        all_goals
          first | rw [if_pos a0] at hs1 | rw [if_neg a0] at hs1
          first | rw [if_pos a1] at hs2 | rw [if_neg a1] at hs2
          repeat (first | with_reducible refine wT ?_ | with_reducible refine wF ?_ | (rw [← hx', ← hy']) | with_reducible refine wadd1 (by omega) ?_ | with_reducible refine wsub1 (by omega) (by omega) ?_ | with_reducible refine wquoN (by omega) (by omega) ?_ | with_reducible refine wshl (by omega) ?_ | with_reducible refine wor (by omega) (by omega) ?_ | with_reducible refine wlssT (by omega) ?_ | with_reducible refine weqlT (by omega) ?_ | with_reducible refine weqlF (by omega) ?_)
          first
            | exact next _ _ (Nat.lt_succ_self m) ⟨i + 1, _, _, rfl, by omega, l1, l2, hs1, hs2⟩
            | exact next _ _ (Nat.lt_succ_self m) ⟨i + 1, _, _, rfl, by omega, hw1, l2, hs1, hs2⟩
            | exact next _ _ (Nat.lt_succ_self m) ⟨i + 1, _, _, rfl, by omega, l1, hw2, hs1, hs2⟩
            | exact next _ _ (Nat.lt_succ_self m) ⟨i + 1, _, _, rfl, by omega, hw1, hw2, hs1, hs2⟩
      · have hx' : x = i % C := hx
        have hy' : y = C - 1 := hy
        by_cases a0 : x = 0 <;> by_cases a1 : x = y 
        all_goals
          first | rw [if_pos a0] at hs1 | rw [if_neg a0] at hs1
          first | rw [if_pos a1] at hs2 | rw [if_neg a1] at hs2
          repeat (first | with_reducible refine wT ?_ | with_reducible refine wF ?_ | (rw [← hx', ← hy']) | with_reducible refine wadd1 (by omega) ?_ | with_reducible refine wsub1 (by omega) (by omega) ?_ | with_reducible refine wquoN (by omega) (by omega) ?_ | with_reducible refine wremN (by omega) ?_ | with_reducible refine wshl (by omega) ?_ | with_reducible refine wor (by omega) (by omega) ?_ | with_reducible refine wlssT (by omega) ?_ | with_reducible refine weqlT (by omega) ?_ | with_reducible refine weqlF (by omega) ?_)
          first
            | exact next _ _ (Nat.lt_succ_self m) ⟨i + 1, _, _, rfl, by omega, l1, l2, hs1, hs2⟩
            | exact next _ _ (Nat.lt_succ_self m) ⟨i + 1, _, _, rfl, by omega, hw1, l2, hs1, hs2⟩
            | exact next _ _ (Nat.lt_succ_self m) ⟨i + 1, _, _, rfl, by omega, l1, hw2, hs1, hs2⟩
            | exact next _ _ (Nat.lt_succ_self m) ⟨i + 1, _, _, rfl, by omega, hw1, hw2, hs1, hs2⟩
  obtain ⟨_, _, e, rfl, rfl⟩ := this
  exact e

theorem grown_W {R C S T : Nat} (hB : BoardOf R C) (hS : S < 2 ^ 9) (hT : T < 2 ^ 9) (N : Nat) (hN : 6 ≤ N) (hlf : 1000 < lf) {h : PHeap} (ht : Tab g h) :
    ∃ h', CL g lf N fn_impl_grown [.int .i64 (R : Int), .int .i64 (C : Int), .int .i64 (S : Int), .int .i64 (T : Int)] h = some (.int .i64 (growN (masksN R C) (S ||| T) S : Int), h') ∧ Keep h.length h h' := by
  obtain ⟨n, rfl⟩ : ∃ n, N = n + 1 := ⟨N - 1, by omega⟩
  have : W (CL g lf (n + 1) fn_impl_grown [.int .i64 (R : Int), .int .i64 (C : Int), .int .i64 (S : Int), .int .i64 (T : Int)] h) fun v h' => v = .int .i64 (growN (masksN R C) (S ||| T) S : Int) ∧ Keep h.length h h' := by
    rw [impl_grown.call_eq]
    unfold impl_grown.main
    simp only [env_lf]
    refine loopW (fun m s => ∃ (X w : Nat) (h1 : PHeap), s = impl_grown.st0 (.int .i64 (R : Int)) (.int .i64 (C : Int)) (.int .i64 (X : Int)) (.int .i64 (T : Int)) (.int .i64 (w : Int)) h1 ∧ Keep h.length h h1 ∧ Tab g h1 ∧ X < 2 ^ 9 ∧ (∀ j, w.testBit j = true → X.testBit j = true) ∧
      (∀ j, S.testBit j = true → X.testBit j = true) ∧ (∀ j, X.testBit j = true → Reach (masksN R C) (S ||| T) S j) ∧ (∀ k j, X.testBit k = true → w.testBit k = false → Adj (masksN R C) k j → T.testBit j = true → X.testBit j = true) ∧ m = (512 - X) + (if w = 0 then 0 else 1)) ?_ lf (512 - S + (if S = 0 then 0 else 1)) _ (by split <;> omega)
      ⟨S, S, h, rfl, Keep.refl _ _, ht, hS, fun _ h => h, fun _ h => h, fun j hj => .start hj (by rw [Nat.testBit_or, hj]; rfl), fun k j h1 h2 _ _ => (by rw [h1] at h2; cases h2), rfl⟩
    rintro n1 m s ⟨X, w, h1, rfl, k1, t1, hX, hw, hSX, hXr, hc, hm⟩ next
    rw [impl_grown.body0_eq]
    unfold impl_grown.body0
    simp only [env_C, env_bin]
    by_cases e : w = 0
    · repeat (first | with_reducible refine wF ?_ | with_reducible refine wrI ?_ | with_reducible refine wneqF (by omega) ?_ | rw [kLoop_exit] | rw [impl_grown.after0_se0_0_1_2_3_9_12])
      refine W.ret ⟨?_, k1⟩
      rw [grown_is hS hT hSX hXr fun k j h1 h2 h3 => hc k j h1 (by rw [e, Nat.zero_testBit]) h2 h3]
    · have hw9 : w < 2 ^ 9 := Nat.lt_of_le_of_lt (sub_le hw) hX
      obtain ⟨b1, b2, b3, b4, b5⟩ := id hB
      obtain ⟨h2, e2, k2⟩ := withNear_calls g lf b1 b2 b3 b4 b5 hw9 n (by omega) (by omega) t1
      have hwl := wide_lt hB hw9
      have hal : wideN R C w &&& T < 2 ^ 9 := Nat.and_lt_two_pow _ hT
      have hml : minusN (wideN R C w &&& T) X < 2 ^ 9 := minusN_lt hal
      repeat (first | with_reducible refine wT ?_ | with_reducible refine wbd (by assumption) ?_ | with_reducible refine wand (by omega) (by omega) ?_ | with_reducible refine wor (by omega) (by omega) ?_ | with_reducible refine wandNot (by omega) (by omega) ?_ | with_reducible refine wneqT (by omega) ?_ | dsimp only)
      obtain ⟨w', hw'⟩ : ∃ w', w' = minusN (wideN R C w &&& T) X := ⟨_, rfl⟩
      have hb : ∀ j, w'.testBit j = true ↔ (w.testBit j = true ∨ ∃ k, w.testBit k = true ∧ Adj (masksN R C) k j) ∧ T.testBit j = true ∧ X.testBit j = false := fun j => by
        rw [hw', minusN_bit, Nat.testBit_and, ← wide_bit hB]; cases (wideN R C w).testBit j <;> cases T.testBit j <;> cases X.testBit j <;> simp
      rw [← hw'] at hml ⊢
      have hor : X ||| w' < 2 ^ 9 := Nat.or_lt_two_pow hX hml
      have hle : X ≤ X ||| w' := Nat.left_le_or
      have hne : w' ≠ 0 → X ≠ X ||| w' := fun hz he => by
        obtain ⟨j, hj⟩ := bit_of_ne hz
        have h1 := ((hb j).1 hj).2.2
        rw [he, Nat.testBit_or, hj, Bool.or_true] at h1; cases h1
      refine next _ _ ?_ ⟨X ||| w', w', h2, rfl, k1.trans (k2.mono k1.1), t1.keep k2, hor, fun j hj => by rw [Nat.testBit_or, hj, Bool.or_true], fun j hj => by rw [Nat.testBit_or, hSX j hj, Bool.true_or], ?_, ?_, rfl⟩
      · rw [hm, if_neg e]
        by_cases e' : w' = 0
        · rw [if_pos e']; omega
        · rw [if_neg e']; have := hne e'; omega
      · intro j hj
        rw [Nat.testBit_or, Bool.or_eq_true] at hj
        rcases hj with hj | hj
        · exact hXr j hj
        · obtain ⟨h1 | ⟨k, h1, h2⟩, h3, h4⟩ := (hb j).1 hj
          · rw [hw j h1] at h4; cases h4
          · exact .step (hXr k (hw k h1)) h2 (by rw [Nat.testBit_or, h3, Bool.or_true])
      · intro k j h1 h2 h3 h4
        rw [Nat.testBit_or, h2, Bool.or_false] at h1
        rw [Nat.testBit_or]
        by_cases hk : w.testBit k = true
        · cases hx : X.testBit j with
          | true => rfl
          | false => rw [(hb j).2 ⟨.inr ⟨k, hk, h3⟩, h4, hx⟩]; rfl
        · rw [hc k j h1 (by simpa using hk) h3 h4]; rfl
  obtain ⟨_, h', e, rfl, k⟩ := this
  exact ⟨h', e, k⟩

end Go.Proofs.YtocjdekcmhgjeaaDoor

/- The model's chapters 4 and 5: what Openings, PairCell, PairFilled, MattersAt, DeadCells, FillCount and PivotCount of it compute. -/
set_option maxRecDepth 20000
namespace Go.Proofs.YtocjdekcmhgjeaaDoor
open Go Go.Ip G

section
variable {Q : PV → PHeap → Prop} {x y : Nat} {f : PV → Res}
end

variable (g : Nat → PV) (lf n : Nat)

/-! ### pairs -/
theorem boardB_of {r c : Int} (h : boardB r c = true) : ∃ R C : Nat, r = (R : Int) ∧ c = (C : Int) ∧ BoardOf R C := by
  unfold boardB at h
  have := of_decide_eq_true h
  obtain ⟨R, rfl⟩ := Int.eq_ofNat_of_zero_le (show 0 ≤ r by omega)
  obtain ⟨C, rfl⟩ := Int.eq_ofNat_of_zero_le (show 0 ≤ c by omega)
  have h9 := this.2.2.2.2
  rw [← Int.natCast_mul] at h9
  exact ⟨R, C, rfl, rfl, by omega, by omega, by omega, by omega, by omega⟩
/-! ### fillings -/
/-! ### what one cell decides -/
end Go.Proofs.YtocjdekcmhgjeaaDoor

/- The laws of chapter 4 over what the program's functions are asked to compute. -/
set_option maxRecDepth 20000
namespace Go.Proofs.YtocjdekcmhgjeaaDoor
open Go Go.Ip G

variable (g : Nat → PV) (lf n : Nat)

/-! ### the exact laws -/
end Go.Proofs.YtocjdekcmhgjeaaDoor

/- The reverse game: who wins it, told by sets and lists; turned and mirrored it is the same. No program text. -/
set_option maxRecDepth 20000
namespace Go.Proofs.YtocjdekcmhgjeaaDoor
open Go Go.Ip G

def revF (R C : Nat) : Nat → Nat → Nat → Nat → Nat
  | 0, a, b, t => if joinsN R C 1 a = true then 2 else if joinsN R C 2 b = true then 1 else 3 - t
  | f + 1, a, b, t => if joinsN R C 1 a = true then 2 else if joinsN R C 2 b = true then 1 else
      if ((List.range (R * C)).any fun k => !(a ||| b).testBit k && decide (revF R C f (putA t k a) (putB t k b) (3 - t) = t)) = true then t else 3 - t

def revN (R C a b t : Nat) : Nat := revF R C (R * C) a b t

theorem revF_fuel {R C : Nat} : ∀ (f f' a b t : Nat), frN (R * C) a b ≤ f → frN (R * C) a b ≤ f' → revF R C f a b t = revF R C f' a b t
  | 0, 0, a, b, t, _, _ => rfl
  | 0, f' + 1, a, b, t, h, _ => by
    rw [revF, revF]
    have : ((List.range (R * C)).any fun k => !(a ||| b).testBit k && decide (revF R C f' (putA t k a) (putB t k b) (3 - t) = t)) = false := by
      rw [List.any_eq_false]
      intro k hk
      rw [fr_zero h (List.mem_range.1 hk)]; simp
    rw [this]; rfl
  | f + 1, 0, a, b, t, _, h => by
    rw [revF, revF]
    have : ((List.range (R * C)).any fun k => !(a ||| b).testBit k && decide (revF R C f (putA t k a) (putB t k b) (3 - t) = t)) = false := by
      rw [List.any_eq_false]
      intro k hk
      rw [fr_zero h (List.mem_range.1 hk)]; simp
    rw [this]; rfl
  | f + 1, f' + 1, a, b, t, h, h' => by
    rw [revF, revF]
    have : ((List.range (R * C)).any fun k => !(a ||| b).testBit k && decide (revF R C f (putA t k a) (putB t k b) (3 - t) = t)) = ((List.range (R * C)).any fun k => !(a ||| b).testBit k && decide (revF R C f' (putA t k a) (putB t k b) (3 - t) = t)) := by
      rw [Bool.eq_iff_iff, List.any_eq_true, List.any_eq_true]
      refine exists_congr fun k => and_congr_right fun hk => ?_
      rw [← Bool.eq_iff_iff]
      cases e : (a ||| b).testBit k with
      | true => rfl
      | false =>
        have := fr_put (t := t) (List.mem_range.1 hk) e
        rw [revF_fuel f f' (putA t k a) (putB t k b) (3 - t) (by omega) (by omega)]
    rw [this]

/-- What is asked of a position that nobody has won: is there a move after which the one to move wins? -/
def rmoveB (R C a b t : Nat) : Bool := (List.range (R * C)).any fun k => !(a ||| b).testBit k && decide (revN R C (putA t k a) (putB t k b) (3 - t) = t)

theorem revN_eq (R C a b t : Nat) : revN R C a b t = if joinsN R C 1 a = true then 2 else if joinsN R C 2 b = true then 1 else if rmoveB R C a b t = true then t else 3 - t := by
  have h1 : revN R C a b t = revF R C (R * C + 1) a b t := revF_fuel _ _ _ _ _ (fr_le _ _ _) (by have := fr_le (R * C) a b; omega)
  rw [h1, revF]; rfl

theorem rmoveB_iff {R C a b t : Nat} : rmoveB R C a b t = true ↔ ∃ k, k < R * C ∧ (a ||| b).testBit k = false ∧ revN R C (putA t k a) (putB t k b) (3 - t) = t := by
  unfold rmoveB
  rw [List.any_eq_true]
  constructor
  · rintro ⟨k, hk, h⟩
    rw [Bool.and_eq_true, decide_eq_true_eq] at h
    exact ⟨k, List.mem_range.1 hk, by simpa using h.1, h.2⟩
  · rintro ⟨k, hk, h1, h2⟩
    exact ⟨k, List.mem_range.2 hk, by rw [h1, h2]; simp⟩

theorem rev_cases {R C a b t : Nat} (ht : t = 1 ∨ t = 2) : revN R C a b t = 1 ∨ revN R C a b t = 2 := by
  rw [revN_eq]
  repeat' split
  all_goals first | exact .inl rfl | exact .inr rfl | omega

theorem rev_first {R C a b t : Nat} (h : joinsN R C 1 a = true) : revN R C a b t = 2 := by rw [revN_eq, if_pos h]
theorem rev_second {R C a b t : Nat} (hB : BoardOf R C) (hp : Pos R C a b) (h : joinsN R C 2 b = true) : revN R C a b t = 1 := by
  rw [revN_eq, if_neg, if_pos h]
  intro h1; rw [hp.both hB h1] at h; cases h
theorem rev_open {R C a b t : Nat} (h1 : joinsN R C 1 a = false) (h2 : joinsN R C 2 b = false) : revN R C a b t = if rmoveB R C a b t = true then t else 3 - t := by
  rw [revN_eq, if_neg (by rw [h1]; decide), if_neg (by rw [h2]; decide)]

theorem revN_moved {R C R' C' : Nat} {f : Nat → Nat} (hB : BoardOf R C) (hB' : BoardOf R' C') (hn : R' * C' = R * C) (hf : Perm f (R * C)) (h1 : ∀ S, S < 2 ^ (R * C) → joinsN R' C' 1 (moved f S (R * C)) = joinsN R C 1 S) (h2 : ∀ S, S < 2 ^ (R * C) → joinsN R' C' 2 (moved f S (R * C)) = joinsN R C 2 S) :
    ∀ (m a b t : Nat), frN (R * C) a b ≤ m → Pos R C a b → revN R' C' (moved f a (R * C)) (moved f b (R * C)) t = revN R C a b t := by
  intro m
  induction m with
  | zero =>
    intro a b t hm hp
    rw [revN_eq, revN_eq, h1 a hp.1, h2 b hp.2.1]
    cases e1 : joinsN R C 1 a with
    | true => simp only [↓reduceIte]
    | false =>
      cases e2 : joinsN R C 2 b with
      | true => simp only [Bool.false_eq_true, ↓reduceIte]
      | false =>
        obtain ⟨k, hk, hkf⟩ := hp.free hB e1 e2
        rw [fr_zero hm hk] at hkf; cases hkf
  | succ m ih =>
    intro a b t hm hp
    rw [revN_eq, revN_eq, h1 a hp.1, h2 b hp.2.1]
    have : rmoveB R' C' (moved f a (R * C)) (moved f b (R * C)) t = rmoveB R C a b t := by
      unfold rmoveB
      rw [hn]
      refine anyB_moved hf (F := fun x y => revN R' C' x y (3 - t)) (G := fun x y => revN R C x y (3 - t)) fun k hk e => ?_
      have := fr_put (t := t) hk e
      show revN R' C' _ _ (3 - t) = t ↔ _
      rw [putA_moved hk, putB_moved hk, ih _ _ _ (by omega) (hp.put hk e)]
    rw [this]

theorem revN_swapped {R C R' C' : Nat} {f : Nat → Nat} (hB : BoardOf R C) (hn : R' * C' = R * C) (hf : Perm f (R * C)) (h1 : ∀ S, S < 2 ^ (R * C) → joinsN R' C' 2 (moved f S (R * C)) = joinsN R C 1 S) (h2 : ∀ S, S < 2 ^ (R * C) → joinsN R' C' 1 (moved f S (R * C)) = joinsN R C 2 S) :
    ∀ (m a b t : Nat), frN (R * C) a b ≤ m → Pos R C a b → (t = 1 ∨ t = 2) → revN R' C' (moved f b (R * C)) (moved f a (R * C)) (3 - t) = 3 - revN R C a b t := by
  intro m
  induction m with
  | zero =>
    intro a b t hm hp ht
    rw [revN_eq, revN_eq, h1 a hp.1, h2 b hp.2.1]
    have hboth := hp.both hB
    cases e1 : joinsN R C 1 a with
    | true => rw [hboth e1]; simp only [Bool.false_eq_true, ↓reduceIte]
    | false =>
      cases e2 : joinsN R C 2 b with
      | true => simp only [Bool.false_eq_true, ↓reduceIte]
      | false =>
        obtain ⟨k, hk, hkf⟩ := hp.free hB e1 e2
        rw [fr_zero hm hk] at hkf; cases hkf
  | succ m ih =>
    intro a b t hm hp ht
    rw [revN_eq, revN_eq, h1 a hp.1, h2 b hp.2.1]
    have hboth := hp.both hB
    have : rmoveB R' C' (moved f b (R * C)) (moved f a (R * C)) (3 - t) = rmoveB R C a b t := by
      unfold rmoveB
      rw [hn]
      refine anyB_swap hf (F := fun x y => revN R' C' x y (3 - (3 - t))) (G := fun x y => revN R C x y (3 - t)) fun k hk e => ?_
      have h := fr_put (t := t) hk e
      have ht' : 3 - t = 1 ∨ 3 - t = 2 := by omega
      show revN R' C' _ _ (3 - (3 - t)) = 3 - t ↔ revN R C _ _ (3 - t) = t
      rw [putA_swap ht hk, putB_swap ht hk, ih _ _ _ (by omega) (hp.put hk e) ht']
      have := rev_cases (R := R) (C := C) (a := putA t k a) (b := putB t k b) ht'
      omega
    rw [this]
    cases e1 : joinsN R C 1 a with
    | true => rw [hboth e1]; simp only [Bool.false_eq_true, ↓reduceIte]
    | false =>
      cases e2 : joinsN R C 2 b with
      | true => simp only [Bool.false_eq_true, ↓reduceIte]
      | false =>
        simp only [Bool.false_eq_true, ↓reduceIte]
        cases rmoveB R C a b t <;> simp only [Bool.false_eq_true, ↓reduceIte] <;> omega

def revL (r c : Int) (xs : List Int) (t : Int) : Int := if (posB r c xs && playerB t) = true then ((revN r.toNat c.toNat (setL xs 1) (setL xs 2) t.toNat : Nat) : Int) else 0
def safeWB (r c : Int) (xs : List Int) (pl : Int) (k : Nat) : Bool := moveL r c xs (k : Int) pl && decide (revL r c (xs.set k pl) (3 - pl) = pl)
def safeL (r c : Int) (xs : List Int) (pl : Int) : List Int := ((List.range xs.length).filter (safeWB r c xs pl)).map fun k : Nat => (k : Int)
theorem revL_none {r c : Int} {xs : List Int} {pl : Int} (h : posB r c xs = false ∨ 2 < pl) : revL r c xs pl = 0 := by
  unfold revL
  rw [if_neg]
  rcases h with h | h
  · rw [h]; simp
  · rw [playerB_none h]; simp
theorem safeL_none {r c : Int} {xs : List Int} {pl : Int} (h : posB r c xs = false ∨ 2 < pl) : safeL r c xs pl = [] := by
  unfold safeL
  rw [List.filter_eq_nil_iff.2 fun k _ => by unfold safeWB; rw [moveL_none h]; simp]
  rfl
theorem safeL_length (r c : Int) (xs : List Int) (t : Int) : (safeL r c xs t).length ≤ xs.length := by
  unfold safeL
  rw [List.length_map]
  have := List.length_filter_le (safeWB r c xs t) (List.range xs.length)
  rw [List.length_range] at this; exact this
section
variable {R C : Nat} {xs : List Int} (hb : posB (R : Int) (C : Int) xs = true) (hS : Sides (R : Int) (C : Int) R C xs)
include hb
theorem revL_eq {T : Nat} (hT : T = 1 ∨ T = 2) : revL (R : Int) (C : Int) xs (T : Int) = ((revN R C (setL xs 1) (setL xs 2) T : Nat) : Int) := by
  unfold revL; rw [hb, playerB_of hT]; rfl
theorem revL_set {P T k : Nat} (hP : P = 1 ∨ P = 2) (hT : T = 1 ∨ T = 2) (hk : xs[k]? = some 0) : revL (R : Int) (C : Int) (xs.set k (P : Int)) (T : Int) = ((revN R C (putA P k (setL xs 1)) (putB P k (setL xs 2)) T : Nat) : Int) := by
  rw [revL_eq (pos_set hb hP k) hT, (set_putA hP hk).1, (set_putA hP hk).2]
theorem revL_cases {T : Nat} (hT : T = 1 ∨ T = 2) : ∃ W : Nat, revL (R : Int) (C : Int) xs (T : Int) = (W : Int) ∧ (W = 1 ∨ W = 2) := ⟨_, revL_eq hb hT, rev_cases hT⟩
include hS
theorem revL_open {T : Nat} (hT : T = 1 ∨ T = 2) (h1 : joinsL (R : Int) (C : Int) xs 1 = false) (h2 : joinsL (R : Int) (C : Int) xs 2 = false) : revL (R : Int) (C : Int) xs (T : Int) = (T : Int) ↔ ∃ k : Nat, xs[k]? = some 0 ∧ revL (R : Int) (C : Int) (xs.set k (T : Int)) (3 - (T : Int)) = (T : Int) := by
  have hlen : xs.length = R * C := hS.2.2.2.2.2.2.2.1
  have hT' : 3 - T = 1 ∨ 3 - T = 2 := by omega
  have e3 : (3 : Int) - (T : Int) = ((3 - T : Nat) : Int) := by omega
  rw [revL_eq hb hT, rev_open (by rw [← joins_one hb]; exact h1) (by rw [← joins_two hb]; exact h2)]
  have : (((if rmoveB R C (setL xs 1) (setL xs 2) T = true then T else 3 - T : Nat) : Int) = (T : Int)) ↔ rmoveB R C (setL xs 1) (setL xs 2) T = true := by
    cases rmoveB R C (setL xs 1) (setL xs 2) T
    · simp only [Bool.false_eq_true, ↓reduceIte]; rcases hT with rfl | rfl <;> decide
    · simp only [↓reduceIte]
  rw [this, rmoveB_iff]
  constructor
  · rintro ⟨k, hk, hf, hw⟩
    have hk0 := (free_bit hS hk).1 hf
    exact ⟨k, hk0, by rw [e3, revL_set hb hT hT' hk0, hw]⟩
  · rintro ⟨k, hk0, hw⟩
    have hk : k < R * C := by rw [← hlen]; exact (List.getElem?_eq_some_iff.1 hk0).1
    rw [e3, revL_set hb hT hT' hk0] at hw
    exact ⟨k, hk, (free_bit hS hk).2 hk0, Int.ofNat_inj.1 hw⟩
theorem revL_turned {T : Nat} (hT : T = 1 ∨ T = 2) (hb' : posB (R : Int) (C : Int) xs.reverse = true) : revL (R : Int) (C : Int) xs.reverse (T : Int) = revL (R : Int) (C : Int) xs (T : Int) := by
  have hB := board_of_sides hS
  have hlen : xs.length = R * C := hS.2.2.2.2.2.2.2.1
  rw [revL_eq hb' hT, revL_eq hb hT, setL_reverse, setL_reverse, hlen]
  rw [revN_moved hB hB rfl (perm_turn (R * C)) (fun S h => (hex_moves hB h).1) (fun S h => (hex_moves hB h).2.1) _ _ _ T (Nat.le_refl _) (pos_sets hS)]
theorem revL_mirrored {T : Nat} (hT : T = 1 ∨ T = 2) (hb' : posB (C : Int) (R : Int) (mir R C xs) = true) : revL (C : Int) (R : Int) (mir R C xs) ((3 - T : Nat) : Int) = 3 - revL (R : Int) (C : Int) xs (T : Int) := by
  have hB := board_of_sides hS
  have hT' : 3 - T = 1 ∨ 3 - T = 2 := by omega
  have e1 : setL (mir R C xs) 1 = moved (sig C R) (setL xs 2) (R * C) := setL_mir hS 2
  have e2 : setL (mir R C xs) 2 = moved (sig C R) (setL xs 1) (R * C) := setL_mir hS 1
  rw [revL_eq hb' hT', revL_eq hb hT, e1, e2]
  rw [revN_swapped hB (Nat.mul_comm C R) (perm_sig hB) (fun S h => (hex_moves hB h).2.2.1) (fun S h => (hex_moves hB h).2.2.2) _ _ _ T (Nat.le_refl _) (pos_sets hS) hT]
  have := rev_cases (R := R) (C := C) (a := setL xs 1) (b := setL xs 2) hT
  omega
end
theorem safeWB_iff {r c : Int} {xs : List Int} {pl : Int} {k : Nat} : safeWB r c xs pl k = true ↔ moveL r c xs (k : Int) pl = true ∧ revL r c (xs.set k pl) (3 - pl) = pl := by
  unfold safeWB; rw [Bool.and_eq_true, decide_eq_true_eq]
theorem safe_mem {r c : Int} {xs : List Int} {pl : Int} {e : Int} : e ∈ safeL r c xs pl ↔ ∃ k : Nat, e = (k : Int) ∧ safeWB r c xs pl k = true := by
  unfold safeL
  rw [List.mem_map]
  constructor
  · rintro ⟨k, hk, rfl⟩
    exact ⟨k, rfl, (List.mem_filter.1 hk).2⟩
  · rintro ⟨k, rfl, hk⟩
    refine ⟨k, List.mem_filter.2 ⟨List.mem_range.2 ?_, hk⟩, rfl⟩
    exact (List.getElem?_eq_some_iff.1 (moveL_iff.1 (safeWB_iff.1 hk).1).2.2.1).1
theorem safe_sorted (r c : Int) (xs : List Int) (pl : Int) : (safeL r c xs pl).Pairwise (· < ·) := by
  unfold safeL
  rw [List.pairwise_map]
  exact ((List.pairwise_lt_range).filter _).imp fun h => by omega
theorem safe_done {r c : Int} {xs : List Int} {pl : Int} (h : joinsL r c xs 1 = true ∨ joinsL r c xs 2 = true) : safeL r c xs pl = [] := by
  unfold safeL
  rw [List.filter_eq_nil_iff.2 fun k _ => ?_]
  · rfl
  · intro hw
    have := moveL_iff.1 (safeWB_iff.1 hw).1
    rcases h with h | h
    · rw [h] at this; exact absurd this.2.2.2.1 (by decide)
    · rw [h] at this; exact absurd this.2.2.2.2 (by decide)
section
variable {R C : Nat} {xs : List Int} (hb : posB (R : Int) (C : Int) xs = true) (hS : Sides (R : Int) (C : Int) R C xs)
include hb hS
theorem safe_some {P : Nat} (hP : P = 1 ∨ P = 2) (h1 : joinsL (R : Int) (C : Int) xs 1 = false) (h2 : joinsL (R : Int) (C : Int) xs 2 = false) : 0 < (safeL (R : Int) (C : Int) xs (P : Int)).length ↔ revL (R : Int) (C : Int) xs (P : Int) = (P : Int) := by
  rw [revL_open hb hS hP h1 h2, List.length_pos_iff_exists_mem]
  constructor
  · rintro ⟨e, he⟩
    obtain ⟨k, rfl, hk⟩ := safe_mem.1 he
    have hk := safeWB_iff.1 hk
    exact ⟨k, (moveL_iff.1 hk.1).2.2.1, hk.2⟩
  · rintro ⟨k, hk, hw⟩
    exact ⟨(k : Int), safe_mem.2 ⟨k, rfl, safeWB_iff.2 ⟨moveL_iff.2 ⟨hb, playerB_of hP, hk, h1, h2⟩, hw⟩⟩⟩
end

/-- With one free cell left who must fill it has joined then. -/
theorem last_cell {R C a b t k : Nat} (hB : BoardOf R C) (hp : Pos R C a b) (ht : t = 1 ∨ t = 2) (h1 : joinsN R C 1 a = false) (h2 : joinsN R C 2 b = false) (hk : k < R * C) (hf : (a ||| b).testBit k = false) (ho : ∀ j, j < R * C → j ≠ k → (a ||| b).testBit j = true) :
    winN R C a b t = t ∧ revN R C a b t = 3 - t := by
  have hp' := hp.put (t := t) hk hf
  have hfull : ∀ j, j < R * C → (putA t k a ||| putB t k b).testBit j = true := fun j hj => by
    rw [put_bit]
    by_cases e : j = k
    · simp [e]
    · rw [ho j hj e]; rfl
  have hj : if t = 1 then joinsN R C 1 (putA t k a) = true else joinsN R C 2 (putB t k b) = true := by
    cases e1 : joinsN R C 1 (putA t k a) with
    | true =>
      rcases ht with rfl | rfl
      · rw [if_pos rfl]
      · rw [show putA 2 k a = a from rfl, h1] at e1; cases e1
    | false =>
      cases e2 : joinsN R C 2 (putB t k b) with
      | true =>
        rcases ht with rfl | rfl
        · rw [show putB 1 k b = b from rfl, h2] at e2; cases e2
        · rw [if_neg (by decide)]
      | false =>
        obtain ⟨j, hj, hjf⟩ := hp'.free hB e1 e2
        rw [hfull j hj] at hjf; cases hjf
  have hw : winN R C (putA t k a) (putB t k b) (3 - t) = t := by
    rcases ht with rfl | rfl
    · rw [if_pos rfl] at hj; exact win_first hj
    · rw [if_neg (by decide)] at hj; exact win_second hB hp' hj
  have hr : revN R C (putA t k a) (putB t k b) (3 - t) = 3 - t := by
    rcases ht with rfl | rfl
    · rw [if_pos rfl] at hj; exact rev_first hj
    · rw [if_neg (by decide)] at hj; exact rev_second hB hp' hj
  have m1 : moveB R C a b t = true := moveB_iff.2 ⟨k, hk, hf, hw⟩
  have m2 : rmoveB R C a b t = false := by
    cases e : rmoveB R C a b t with
    | false => rfl
    | true =>
      obtain ⟨j, hj, hjf, hjw⟩ := rmoveB_iff.1 e
      have : j = k := Classical.byContradiction fun hne => by rw [ho j hj hne] at hjf; cases hjf
      subst this
      omega
  exact ⟨by rw [win_open h1 h2, m1]; rfl, by rw [rev_open h1 h2, m2]; rfl⟩

end Go.Proofs.YtocjdekcmhgjeaaDoor

/- The model's table of who wins the reverse game, and who wins it on free square boards. No program text. -/
set_option maxRecDepth 20000
namespace Go.Proofs.YtocjdekcmhgjeaaDoor
open Go Go.Ip G

/-- What the table holds: nothing, or who wins. -/
def RInv (R C : Nat) (T : List Int) : Prop := T.length = 2 * 3 ^ (R * C) ∧ ∀ a b t, Pos R C a b → (t = 1 ∨ t = 2) → T[keyN R C a b t]? = some 0 ∨ T[keyN R C a b t]? = some ((revN R C a b t : Nat) : Int)

theorem RInv.new (R C : Nat) : RInv R C (List.replicate (2 * 3 ^ (R * C)) 0) := by
  refine ⟨List.length_replicate, fun a b t h ht => .inl ?_⟩
  rw [List.getElem?_replicate, if_pos (keyN_lt h ht)]
theorem RInv.put {R C a b t : Nat} {T : List Int} (hi : RInv R C T) (h : Pos R C a b) (ht : t = 1 ∨ t = 2) : RInv R C (T.set (keyN R C a b t) ((revN R C a b t : Nat) : Int)) := by
  refine ⟨by rw [List.length_set]; exact hi.1, fun a' b' t' h' ht' => ?_⟩
  rw [List.getElem?_set]
  by_cases e : keyN R C a b t = keyN R C a' b' t'
  · right
    rw [if_pos e, if_pos (by rw [hi.1]; exact keyN_lt h ht)]
    unfold keyN at e
    have e1 : keyF a b (R * C) = keyF a' b' (R * C) := by omega
    have e2 : t = t' := by omega
    obtain ⟨rfl, rfl⟩ := key_pos h h' e1
    rw [e2]
  · rw [if_neg e]; exact hi.2 a' b' t' h' ht'
theorem RInv.get {R C a b t : Nat} {T : List Int} (hi : RInv R C T) (h : Pos R C a b) (ht : t = 1 ∨ t = 2) : ∃ hl : keyN R C a b t < T.length, T[keyN R C a b t] = 0 ∨ T[keyN R C a b t] = ((revN R C a b t : Nat) : Int) := by
  have hl : keyN R C a b t < T.length := by rw [hi.1]; exact keyN_lt h ht
  refine ⟨hl, ?_⟩
  have := hi.2 a b t h ht
  rw [List.getElem?_eq_getElem hl] at this
  exact this.imp Option.some.inj Option.some.inj

/-- A winning move among the first k cells. -/
def rmoveTo (R C a b t k : Nat) : Bool := (List.range k).any fun k => !(a ||| b).testBit k && decide (revN R C (putA t k a) (putB t k b) (3 - t) = t)
theorem rmoveTo_succ (R C a b t k : Nat) : rmoveTo R C a b t (k + 1) = (rmoveTo R C a b t k || (!(a ||| b).testBit k && decide (revN R C (putA t k a) (putB t k b) (3 - t) = t))) := by
  unfold rmoveTo; rw [List.range_succ, List.any_append]; simp
theorem rmoveTo_mono {R C a b t k : Nat} (hk : k ≤ R * C) (h : rmoveTo R C a b t k = true) : rmoveB R C a b t = true := by
  unfold rmoveTo at h
  rw [List.any_eq_true] at h
  obtain ⟨x, hx, hh⟩ := h
  unfold rmoveB
  rw [List.any_eq_true]
  exact ⟨x, List.mem_range.2 (by have := List.mem_range.1 hx; omega), hh⟩

theorem square_one : revN 1 1 0 0 1 = 2 := by kernel_rfl
theorem square_two : revN 2 2 0 0 1 = 1 := by kernel_rfl
theorem square_three : revN 3 3 0 0 1 = 2 := by kernel_rfl
/-- Who wins the reverse game on the free square board, First being to move. -/
def squareL (s : Int) : Int := if s = 1 then 2 else if s = 2 then 1 else if s = 3 then 2 else 0
theorem setL_free (w : Int) (hw : w ≠ 0) (m : Nat) : setL (List.replicate m 0) w = 0 := by
  apply Nat.eq_of_testBit_eq
  intro j
  rw [Nat.zero_testBit]
  cases e : (setL (List.replicate m 0) w).testBit j with
  | false => rfl
  | true =>
    have := setL_bit.1 e
    rw [List.getElem?_replicate] at this
    split at this
    · exact (hw (Option.some.inj this).symm).elim
    · cases this
theorem square_rev {S : Nat} (h1 : 1 ≤ S) (h3 : S ≤ 3) : revL (S : Int) (S : Int) (List.replicate (S * S) 0) 1 = squareL (S : Int) := by
  have hS : S = 1 ∨ S = 2 ∨ S = 3 := by omega
  have hb : posB (S : Int) (S : Int) (List.replicate (S * S) 0) = true := by
    rcases hS with rfl | rfl | rfl <;> kernel_rfl
  rw [show (1 : Int) = ((1 : Nat) : Int) from rfl, revL_eq hb (.inl rfl), setL_free 1 (by decide), setL_free 2 (by decide)]
  rcases hS with rfl | rfl | rfl
  · rw [square_one]; rfl
  · rw [square_two]; rfl
  · rw [square_three]; rfl

end Go.Proofs.YtocjdekcmhgjeaaDoor

/- The model's chapter 8: what ReverseWinner, SafeCells and SquareReverse of it compute. -/
set_option maxRecDepth 20000
namespace Go.Proofs.YtocjdekcmhgjeaaDoor
open Go Go.Ip G

variable (g : Nat → PV) (lf n : Nat)

/-! ### the solver -/
theorem rsolve_W {R C : Nat} (hB : BoardOf R C) (hlf : 1000 < lf) : ∀ (m a b t N : Nat) (T : List Int) (p pm : PV) (h : PHeap) (b0 : Nat), frN (R * C) a b ≤ m → Pos R C a b → (t = 1 ∨ t = 2) → m + 5 ≤ N → Fix b0 h pm (ints (masksN R C)) → OwnSl b0 h p T → b0 ≤ h.length → RInv R C T →
    W (CL g lf N fn_spec_l8Solve [.int .i64 (R : Int), .int .i64 (C : Int), pm, .int .i64 (a : Int), .int .i64 (b : Int), .int .i64 (t : Int), p] h) fun v h' => v = .int .i64 ((revN R C a b t : Nat) : Int) ∧ ∃ T', OwnSl b0 h' p T' ∧ RInv R C T' ∧ Keep b0 h h' := by
  intro m
  induction m using Nat.strongRecOn with
  | _ m ih =>
  intro a b t N T p pm h b0 hm hp ht hN hpm ho hb0 hi
  obtain ⟨n, rfl⟩ : ∃ n, N = n + 1 := ⟨N - 1, by omega⟩
  have h9 := hB.2.2.2.2
  have l9 := hp.lt9 hB
  have hml : (ints (masksN R C)).length = R * C := by rw [ints_length, masksN_length]
  have e1 := l2Joins_calls g lf hB (P := 1) (.inl rfl) hpm.now l9.1 n (by omega) hlf
  have e2 := l2Joins_calls g lf hB (P := 2) (.inr rfl) hpm.now l9.2 n (by omega) hlf
  rw [spec_l8Solve.call_eq]
  unfold spec_l8Solve.main
  simp only [env_C, env_lf]
  cases j1 : joinsN R C 1 a with
  | true =>
    rw [j1] at e1
    refine wbd e1 ?_
    repeat (first | with_reducible refine wT ?_ | with_reducible refine wrI ?_ | dsimp only)
    exact W.ret ⟨by rw [rev_first j1]; rfl, T, ho, hi, Keep.refl _ _⟩
  | false =>
  rw [j1] at e1
  refine wbd e1 ?_
  cases j2 : joinsN R C 2 b with
  | true =>
    rw [j2] at e2
    repeat (first | with_reducible refine wT ?_ | with_reducible refine wF ?_ | with_reducible refine wrI ?_ | (refine wbd e2 ?_) | dsimp only)
    skip
    exact W.ret ⟨by rw [rev_second hB hp j2]; rfl, T, ho, hi, Keep.refl _ _⟩
  | false =>
  rw [j2] at e2
  repeat (first | with_reducible refine wF ?_ | (refine wbd e2 ?_) | dsimp only)
  skip
  -- the key
  refine loopW (fun m s => ∃ (k : Nat) (key : Int), s = spec_l8Solve.st0 (.int .i64 (R : Int)) (.int .i64 (C : Int)) pm (.int .i64 (a : Int)) (.int .i64 (b : Int)) (.int .i64 (t : Int)) p (.int .i64 key) (.int .i64 (k : Int)) h ∧ k + m = R * C ∧ key = (keyF a b k : Int)) ?_ lf (R * C) _ (by omega) ⟨0, 0, rfl, by omega, rfl⟩
  rintro n1 m1 s ⟨k, key, rfl, hkm, hkey⟩ next
  have hk3 := key_lt hp k
  have hp3 := pow3_le (show k ≤ 9 by omega)
  rw [spec_l8Solve.body0_eq]
  unfold spec_l8Solve.body0
  simp only [env_bin, env_len]
  cases m1 with
  | succ m1 =>
    repeat (first | with_reducible refine wT ?_ | with_reducible refine wlen (Fix.now (by assumption)) ?_ | with_reducible refine wadd1 (by omega) ?_ | with_reducible refine wrem2 ?_ | with_reducible refine wshr (by omega) ?_ | with_reducible refine wlssT (by omega) ?_ | with_reducible refine wadd (by omega) ?_ | with_reducible refine wmul (by omega) ?_)
    refine next _ _ (Nat.lt_succ_self m1) ⟨k + 1, _, rfl, by omega, ?_⟩
    rw [keyF]; omega
  | zero =>
    have hkR : k = R * C := by omega
    subst hkR
    repeat (first | with_reducible refine wF ?_ | with_reducible refine wlen (Fix.now (by assumption)) ?_ | with_reducible refine wlssF (by omega) ?_ | with_reducible refine wadd (by omega) ?_ | with_reducible refine wsub (by omega) ?_ | with_reducible refine wmul (by omega) ?_ | rw [kLoop_exit] | rw [spec_l8Solve.after0_se0_0_1_2_3_4_5_6_15_16_33] | simp only [env_C, env_Y, env_g, env_lf, env_pick, env_alloc, env_box, env_build, env_buildSlice, env_load, env_store, env_ptr, env_bin, env_un, env_conv, env_make, env_slice, env_fieldAddr, env_field, env_indexAddr, env_index, env_extract, env_len, env_append, env_max, env_min, env_makeMap, env_lookup, env_update, env_clos])
    have hkn : 2 * key + (t : Int) - 1 = ((keyN R C a b t : Nat) : Int) := by unfold keyN; omega
    rw [hkn]
    obtain ⟨hl, hT⟩ := hi.get hp ht
    refine wat ho.int hl fun ad had => ?_
    refine wbd had ?_
    have hwc := rev_cases (R := R) (C := C) (a := a) (b := b) ht
    refine wgtr (fun e => ?_) (fun e => ?_)
    · have hT' : T[keyN R C a b t] = ((revN R C a b t : Nat) : Int) := by
        rcases hT with h0 | h0
        · omega
        · exact h0
      repeat (first | with_reducible refine wT ?_)
      refine wat ho.int hl fun ad had => ?_
      refine wbd had ?_
      rw [hT']
      repeat (first | with_reducible refine wrI ?_)
      exact W.ret ⟨rfl, T, ho, hi, Keep.refl _ _⟩
    · have e3 := other_W g lf n (by omega) h ht
      repeat (first | with_reducible refine wF ?_ | with_reducible refine wbd (by assumption) ?_ | dsimp only)
      obtain ⟨KEY, hKEY⟩ : ∃ x, x = keyN R C a b t := ⟨_, rfl⟩
      have hwo := rev_open (t := t) j1 j2
      have fin : ∀ (bst : Int) (k : Nat) (x : PV) (T2 : List Int) (h2 : PHeap), bst = ((revN R C a b t : Nat) : Int) → OwnSl b0 h2 p T2 → RInv R C T2 → Keep b0 h h2 →
          W (spec_l8Solve.K1 (env g lf n) (kTop Tryd.prog Tryd.f43) (.exit 2) (spec_l8Solve.se2_0_1_2_3_4_5_6_15_17_18_73 (.int .i64 (R : Int)) (.int .i64 (C : Int)) pm (.int .i64 (a : Int)) (.int .i64 (b : Int)) (.int .i64 (t : Int)) p (.int .i64 (KEY : Int)) (.int .i64 bst) (.int .i64 (k : Int)) x h2))
            fun v h' => v = .int .i64 ((revN R C a b t : Nat) : Int) ∧ ∃ T', OwnSl b0 h' p T' ∧ RInv R C T' ∧ Keep b0 h h' := by
        intro bst k x T2 h2 hbst o2 i2 k2
        rw [spec_l8Solve.after1_se2_0_1_2_3_4_5_6_15_17_18_73]
        simp only [env_indexAddr, env_store]
        obtain ⟨hl2, _⟩ := i2.get hp ht
        rw [← hKEY] at hl2
        refine wst o2 hl2 fun h3 o3 k3 l3 a3 e4 => ?_
        repeat (first | with_reducible refine wrI ?_)
        rw [hbst] at o3 ⊢
        rw [hKEY] at o3
        exact W.ret ⟨rfl, _, o3, i2.put hp ht, k2.trans k3⟩
      rw [← hKEY]
      refine loopW (fun m s => ∃ (k : Nat) (bst : Int) (T2 : List Int) (h2 : PHeap), s = spec_l8Solve.st1 (.int .i64 (R : Int)) (.int .i64 (C : Int)) pm (.int .i64 (a : Int)) (.int .i64 (b : Int)) (.int .i64 (t : Int)) p (.int .i64 (KEY : Int)) (.int .i64 bst) (.int .i64 (k : Int)) h2 ∧ k + m = R * C ∧
        ((bst = ((3 - t : Nat) : Int) ∧ rmoveTo R C a b t k = false) ∨ (bst = (t : Int) ∧ rmoveB R C a b t = true)) ∧ OwnSl b0 h2 p T2 ∧ RInv R C T2 ∧ Keep b0 h h2) ?_ lf (R * C) _ (by omega) ⟨0, _, T, h, rfl, by omega, .inl ⟨rfl, rfl⟩, ho, hi, Keep.refl _ _⟩
      rintro n2 m2 s ⟨k, bst, T2, h2, rfl, hkm2, hbst, o2, i2, k2⟩ next2
      have hpm2 := hpm.keep k2
      rw [spec_l8Solve.body1_eq]
      unfold spec_l8Solve.body1
      simp only [env_C, env_pick, env_bin, env_len]
      rcases hbst with ⟨hb1, hb2⟩ | ⟨hb1, hb2⟩
      · cases m2 with
        | zero =>
          repeat (first | with_reducible refine wF ?_ | with_reducible refine wg0 rfl ?_ | with_reducible refine wpF ?_ | with_reducible refine wsm ?_ | with_reducible refine wlen (Fix.now (by assumption)) ?_ | with_reducible refine wlssF (by omega) ?_ | rw [kLoop_exit] | dsimp only)
          refine fin bst k _ T2 h2 ?_ o2 i2 k2
          have hkR : k = R * C := by omega
          subst hkR
          have : rmoveB R C a b t = false := hb2
          rw [hwo, this, hb1]; rfl
        | succ m2 =>
          have hkl : k < R * C := by omega
          have hne : ¬ bst = (t : Int) := by omega
          have hor : a ||| b < 2 ^ 9 := Nat.or_lt_two_pow l9.1 l9.2
          have hsl := shl_lt (show k < 9 by omega)
          have hto := rmoveTo_succ R C a b t k
          rw [hb2, Bool.false_or] at hto
          repeat (first | with_reducible refine wT ?_ | with_reducible refine wg1 rfl ?_ | with_reducible refine wpT ?_ | with_reducible refine wpv ?_ | with_reducible refine wsm ?_ | with_reducible refine wlen (Fix.now (by assumption)) ?_ | with_reducible refine wrem2 ?_ | with_reducible refine wshr (by omega) ?_ | with_reducible refine wor (by omega) (by omega) ?_ | with_reducible refine wlssT (by omega) ?_ | with_reducible refine wneqT (by omega) ?_ | dsimp only)
          refine weql (fun e => ?_) (fun e => ?_)
          · have hbit := (bit_iff (a ||| b) k).1 (by omega)
            rw [hbit] at hto
            repeat (first | with_reducible refine wT ?_ | with_reducible refine wadd1 (by omega) ?_)
            exact next2 _ _ (Nat.lt_succ_self m2) ⟨k + 1, bst, T2, h2, rfl, by omega, .inl ⟨hb1, hto⟩, o2, i2, k2⟩
          · have hbit : (a ||| b).testBit k = false := by
              cases e2 : (a ||| b).testBit k with
              | false => rfl
              | true => exact (e (by rw [(bit_iff (a ||| b) k).2 e2]; rfl)).elim
            have hfr := fr_put (t := t) hkl hbit
            have hpp := hp.put (t := t) hkl hbit
            rw [hbit, Bool.not_false, Bool.true_and] at hto
            have hor2 : a ||| 1 <<< k < 2 ^ 9 := Nat.or_lt_two_pow l9.1 hsl
            have hor3 : b ||| 1 <<< k < 2 ^ 9 := Nat.or_lt_two_pow l9.2 hsl
            rcases ht with rfl | rfl
            · repeat (first | with_reducible refine wT ?_ | with_reducible refine wF ?_ | with_reducible refine wshl (by omega) ?_ | with_reducible refine wor (by omega) (by omega) ?_ | with_reducible refine weqlT (by omega) ?_)
              refine wcall (ih (m - 1) (by omega) (a ||| 1 <<< k) b 2 n T2 p pm h2 b0 (Nat.le_sub_one_of_lt (Nat.lt_of_lt_of_le hfr hm)) hpp (.inr rfl) (by omega) hpm2 o2 (Nat.le_trans hb0 k2.1) i2) fun v h3 ⟨hv, T3, o3, i3, k3⟩ => ?_
              subst hv
              refine weql (fun e => ?_) (fun e => ?_)
              · repeat (first | with_reducible refine wT ?_ | with_reducible refine wadd1 (by omega) ?_ | dsimp only)
                have hw : revN R C (putA 1 k a) (putB 1 k b) (3 - 1) = 1 := Int.ofNat_inj.1 e
                rw [decide_eq_true hw] at hto
                exact next2 _ _ (Nat.lt_succ_self m2) ⟨k + 1, _, T3, h3, rfl, by omega, .inr ⟨rfl, rmoveTo_mono (by omega) hto⟩, o3, i3, k2.trans k3⟩
              · repeat (first | with_reducible refine wF ?_ | with_reducible refine wadd1 (by omega) ?_ | dsimp only)
                have hw : ¬ revN R C (putA 1 k a) (putB 1 k b) (3 - 1) = 1 := fun hh => e (congrArg Int.ofNat hh)
                rw [decide_eq_false hw] at hto
                exact next2 _ _ (Nat.lt_succ_self m2) ⟨k + 1, bst, T3, h3, rfl, by omega, .inl ⟨hb1, hto⟩, o3, i3, k2.trans k3⟩
            · repeat (first | with_reducible refine wF ?_ | with_reducible refine wshl (by omega) ?_ | with_reducible refine wor (by omega) (by omega) ?_ | with_reducible refine weqlF (by omega) ?_)
              refine wcall (ih (m - 1) (by omega) a (b ||| 1 <<< k) 1 n T2 p pm h2 b0 (Nat.le_sub_one_of_lt (Nat.lt_of_lt_of_le hfr hm)) hpp (.inl rfl) (by omega) hpm2 o2 (Nat.le_trans hb0 k2.1) i2) fun v h3 ⟨hv, T3, o3, i3, k3⟩ => ?_
              subst hv
              refine weql (fun e => ?_) (fun e => ?_)
              · repeat (first | with_reducible refine wT ?_ | with_reducible refine wadd1 (by omega) ?_ | dsimp only)
                have hw : revN R C (putA 2 k a) (putB 2 k b) (3 - 2) = 2 := Int.ofNat_inj.1 e
                rw [decide_eq_true hw] at hto
                exact next2 _ _ (Nat.lt_succ_self m2) ⟨k + 1, _, T3, h3, rfl, by omega, .inr ⟨rfl, rmoveTo_mono (by omega) hto⟩, o3, i3, k2.trans k3⟩
              · repeat (first | with_reducible refine wF ?_ | with_reducible refine wadd1 (by omega) ?_ | dsimp only)
                have hw : ¬ revN R C (putA 2 k a) (putB 2 k b) (3 - 2) = 2 := fun hh => e (congrArg Int.ofNat hh)
                rw [decide_eq_false hw] at hto
                exact next2 _ _ (Nat.lt_succ_self m2) ⟨k + 1, bst, T3, h3, rfl, by omega, .inl ⟨hb1, hto⟩, o3, i3, k2.trans k3⟩
      · have hfin : bst = ((revN R C a b t : Nat) : Int) := by rw [hwo, hb2, hb1]; rfl
        by_cases hkl : k < R * C
        · repeat (first | with_reducible refine wF ?_ | with_reducible refine wg1 rfl ?_ | with_reducible refine wpT ?_ | with_reducible refine wpv ?_ | with_reducible refine wsm ?_ | with_reducible refine wlen (Fix.now (by assumption)) ?_ | with_reducible refine wlssT (by omega) ?_ | with_reducible refine wneqF (by omega) ?_ | rw [kLoop_exit] | dsimp only)
          exact fin bst k _ T2 h2 hfin o2 i2 k2
        · repeat (first | with_reducible refine wF ?_ | with_reducible refine wg0 rfl ?_ | with_reducible refine wpF ?_ | with_reducible refine wsm ?_ | with_reducible refine wlen (Fix.now (by assumption)) ?_ | with_reducible refine wlssF (by omega) ?_ | rw [kLoop_exit] | dsimp only)
          exact fin bst k _ T2 h2 hfin o2 i2 k2

theorem rtable_W {R C : Nat} (hB : BoardOf R C) (hlf : 1000 < lf) (N : Nat) (hN : 1 ≤ N) (h : PHeap) :
    W (CL g lf N fn_spec_l3Table [.int .i64 ((R * C : Nat) : Int)] h) fun v h' => ∃ T, OwnSl h.length h' v T ∧ RInv R C T ∧ Keep h.length h h' := by
  obtain ⟨n, rfl⟩ : ∃ n, N = n + 1 := ⟨N - 1, by omega⟩
  have h9 := hB.2.2.2.2
  rw [spec_l3Table.call_eq]
  unfold spec_l3Table.main
  simp only [env_lf]
  refine loopW (fun m s => ∃ (k V : Nat), s = spec_l3Table.st0 (.int .i64 ((R * C : Nat) : Int)) (.int .i64 (V : Int)) (.int .i64 (k : Int)) h ∧ k + m = R * C ∧ V = 2 * 3 ^ k) ?_ lf (R * C) _ (by omega) ⟨0, 2, rfl, by omega, rfl⟩
  rintro n1 m1 s ⟨k, V, rfl, hkm, hV⟩ next
  have hp3 := pow3_le (show k ≤ 9 by omega)
  rw [spec_l3Table.body0_eq]
  unfold spec_l3Table.body0
  simp only [env_bin]
  cases m1 with
  | succ m1 =>
    repeat (first | with_reducible refine wT ?_ | with_reducible refine wadd1 (by omega) ?_ | with_reducible refine wlssT (by omega) ?_ | with_reducible refine wmul (by omega) ?_)
    refine next _ _ (Nat.lt_succ_self m1) ⟨k + 1, V * 3, rfl, by omega, by rw [Nat.pow_succ]; omega⟩
  | zero =>
    have hkR : k = R * C := by omega
    subst hkR
    subst hV
    repeat (first | with_reducible refine wF ?_ | with_reducible refine wlssF (by omega) ?_ | rw [kLoop_exit] | rw [spec_l3Table.after0_se0_0_3_4_7] | simp only [env_C, env_Y, env_g, env_lf, env_pick, env_alloc, env_box, env_build, env_buildSlice, env_load, env_store, env_ptr, env_bin, env_un, env_conv, env_make, env_slice, env_fieldAddr, env_field, env_indexAddr, env_index, env_extract, env_len, env_append, env_max, env_min, env_makeMap, env_lookup, env_update, env_clos])
    refine wmake (by omega) fun p h1 o1 k1 => ?_
    repeat (first | with_reducible refine wresO (by assumption) ?_ | dsimp only)
    exact W.ret ⟨_, o1, RInv.new R C, k1⟩

theorem specReverse_calls {xs : List Int} {p : PV} {h : PHeap} (N : Nat) (hN : 17 ≤ N) (r c t : Int) (hp : IntSl .i64 h p xs) (hl : xs.length ≤ 2 ^ 35) (hf : xs.length < lf) (hlf : 1000 < lf) :
    ∃ h', CL g lf N fn_spec_ReverseWinner [.int .i64 r, .int .i64 c, p, .int .i64 t] h = some (.int .i64 (revL r c xs t), h') ∧ Keep h.length h h' := by
  obtain ⟨n, rfl⟩ : ∃ n, N = n + 1 := ⟨N - 1, by omega⟩
  have hpos := specPositionOk_N g lf n (by omega) r c hp (by omega) hf
  have hin1 : CL g lf n fn_spec_l1In [.int .i64 t, .int .i64 1, .int .i64 2] h = some (.bool (playerB t), h) := l1In_N g lf n (by omega) h t 1 2
  have : W (CL g lf (n + 1) fn_spec_ReverseWinner [.int .i64 r, .int .i64 c, p, .int .i64 t] h) fun v h' => v = .int .i64 (revL r c xs t) ∧ Keep h.length h h' := by
    rw [spec_ReverseWinner.call_eq]
    unfold spec_ReverseWinner.main
    simp only [env_C, env_pick, env_un, env_len]
    cases hb : posB r c xs with
    | false =>
      rw [hb] at hpos
      repeat (first | with_reducible refine wT ?_ | with_reducible refine wg0 rfl ?_ | with_reducible refine wpT ?_ | with_reducible refine wnF ?_ | with_reducible refine wsm ?_ | with_reducible refine wrI ?_ | with_reducible refine wbd (by assumption) ?_ | dsimp only)
      exact W.ret ⟨by rw [revL_none (.inl hb)], Keep.refl _ _⟩
    | true =>
      rw [hb] at hpos
      cases hpl : playerB t with
      | false =>
        rw [hpl] at hin1
        repeat (first | with_reducible refine wT ?_ | with_reducible refine wg1 rfl ?_ | with_reducible refine wpF ?_ | with_reducible refine wnT ?_ | with_reducible refine wnF ?_ | with_reducible refine wpv ?_ | with_reducible refine wsm ?_ | with_reducible refine wrI ?_ | with_reducible refine wbd (by assumption) ?_ | dsimp only)
        refine W.ret ⟨?_, Keep.refl _ _⟩
        unfold revL; rw [hpl, Bool.and_false]; rfl
      | true =>
        rw [hpl] at hin1
        obtain ⟨R, C, hS⟩ := sides_of hb
        obtain ⟨T, rfl, hT⟩ := player_of hpl
        obtain ⟨rfl, rfl, _⟩ := id hS
        have hB := board_of_sides hS
        have hlen : xs.length = R * C := hS.2.2.2.2.2.2.2.1
        have h9 := hB.2.2.2.2
        have hml : (ints (masksN R C)).length = R * C := by rw [ints_length, masksN_length]
        obtain ⟨pm, h1, e1, o1, k1⟩ := l2Masks_calls g lf hB n (by omega) (by omega) (h := h)
        have hp1 := hp.keep k1
        have hlm := o1.int.len'
        rw [hml] at hlm
        have e2 := l2Set_calls g lf 1 hp1 (by omega) n (by omega) (by omega)
        have e3 := l2Set_calls g lf 2 hp1 (by omega) n (by omega) (by omega)
        repeat (first | with_reducible refine wF ?_ | with_reducible refine wg1 rfl ?_ | with_reducible refine wpF ?_ | with_reducible refine wnT ?_ | with_reducible refine wpv ?_ | with_reducible refine wsm ?_ | with_reducible refine wbd (by assumption) ?_ | dsimp only)
        refine wcall (rtable_W g lf hB hlf n (by omega) h1) fun q h2 ⟨T2, o2, i2, k2⟩ => ?_
        repeat (first | dsimp only)
        refine wcall (rsolve_W g lf hB hlf (R * C) (setL xs 1) (setL xs 2) T n T2 q pm h2 h1.length (fr_le _ _ _) (pos_sets hS) hT (by omega) (o1.int.fix.keep k2) o2 k2.1 i2) fun v h3 ⟨hv, T3, o3, i3, k3⟩ => ?_
        subst hv
        repeat (first | with_reducible refine wrI ?_ | dsimp only)
        exact W.ret ⟨by rw [revL_eq hb hT], k1.trans ((k2.trans k3).mono k1.1)⟩
  obtain ⟨_, h', e, rfl, k⟩ := this
  exact ⟨h', e, k⟩

/-! ### safe cells -/
def safeFrom (r c : Int) (xs : List Int) (pl : Int) (k m : Nat) : List Int := ((List.range' k m).filter (safeWB r c xs pl)).map fun k : Nat => (k : Int)
theorem safeFrom_all (r c : Int) (xs : List Int) (pl : Int) : safeFrom r c xs pl 0 xs.length = safeL r c xs pl := by unfold safeFrom safeL; rw [List.range_eq_range']
theorem safeFrom_succ (r c : Int) (xs : List Int) (pl : Int) (k m : Nat) : safeFrom r c xs pl k (m + 1) = if safeWB r c xs pl k = true then (k : Int) :: safeFrom r c xs pl (k + 1) m else safeFrom r c xs pl (k + 1) m := by
  unfold safeFrom
  rw [List.range'_succ, List.filter_cons]
  split <;> rfl
theorem specSafeCells_calls {xs : List Int} {p : PV} {h : PHeap} (N : Nat) (hN : 20 ≤ N) (r c pl : Int) (hp : IntSl .i64 h p xs) (hl : xs.length ≤ 2 ^ 35) (hf : xs.length < lf) (hlf : 1000 < lf) :
    ∃ q h', CL g lf N fn_spec_SafeCells [.int .i64 r, .int .i64 c, p, .int .i64 pl] h = some (q, h') ∧ OwnSl h.length h' q (safeL r c xs pl) ∧ Keep h.length h h' := by
  obtain ⟨n, rfl⟩ : ∃ n, N = n + 1 := ⟨N - 1, by omega⟩
  suffices this : W (CL g lf (n + 1) fn_spec_SafeCells [.int .i64 r, .int .i64 c, p, .int .i64 pl] h) fun q h' => OwnSl h.length h' q (safeL r c xs pl) ∧ Keep h.length h h' by
    obtain ⟨q, h', e, o, k⟩ := this
    exact ⟨q, h', e, o, k⟩
  rw [spec_SafeCells.call_eq]
  unfold spec_SafeCells.main
  simp only [env_lf, env_buildSlice]
  refine wempty fun q h1 o1 k1 => ?_
  refine loopW (fun m s => ∃ (k : Nat) (ys : List Int) (q : PV) (h2 : PHeap), s = spec_SafeCells.st0 (.int .i64 r) (.int .i64 c) p (.int .i64 pl) q (.int .i64 (k : Int)) h2 ∧ k + m = xs.length ∧ ys.length ≤ k ∧ ys ++ safeFrom r c xs pl k m = safeL r c xs pl ∧ OwnSl h.length h2 q ys ∧ Keep h.length h h2) ?_ lf xs.length _ hf ⟨0, [], q, h1, rfl, by omega, Nat.le_refl _, safeFrom_all r c xs pl, o1, k1⟩
  rintro n1 m s ⟨k, ys, q, h2, rfl, hkm, hy, hL, o2, k2⟩ next
  have hp2 := hp.keep k2
  rw [spec_SafeCells.body0_eq]
  unfold spec_SafeCells.body0
  simp only [env_C, env_pick, env_buildSlice, env_bin, env_extract, env_len, env_append]
  cases m with
  | zero =>
    repeat (first | with_reducible refine wF ?_ | with_reducible refine wlen (by assumption) ?_ | with_reducible refine wlssF (by omega) ?_ | with_reducible refine wresO (by assumption) ?_ | rw [kLoop_exit] | rw [spec_SafeCells.after0_se0_0_1_2_3_9_10_17])
    have : safeFrom r c xs pl k 0 = [] := rfl
    rw [this, List.append_nil] at hL
    exact W.ret ⟨hL ▸ o2, k2⟩
  | succ m =>
    have hk : k < xs.length := by omega
    rw [safeFrom_succ] at hL
    obtain ⟨q3, h3, e3, o3, k3⟩ := specPlayed_calls g lf n (by omega) r c (k : Int) pl hp2 hl hf hlf
    cases hm : moveL r c xs (k : Int) pl with
    | false =>
      have hw : safeWB r c xs pl k = false := by unfold safeWB; rw [hm]; rfl
      rw [hw, if_neg (by decide)] at hL
      rw [hm] at e3
      repeat (first | with_reducible refine wT ?_ | with_reducible refine wF ?_ | with_reducible refine wg0 rfl ?_ | with_reducible refine wpF ?_ | with_reducible refine wsm ?_ | with_reducible refine wx0 ?_ | with_reducible refine wx1 ?_ | with_reducible refine wbd (by assumption) ?_ | with_reducible refine wlen (by assumption) ?_ | with_reducible refine wadd1 (by omega) ?_ | with_reducible refine wlssT (by omega) ?_ | dsimp only)
      exact next _ _ (Nat.lt_succ_self m) ⟨k + 1, ys, q, h3, rfl, by omega, by omega, hL, o2.keep k3, k2.trans (k3.mono k2.1)⟩
    | true =>
      obtain ⟨hb, hpl, hk0, hj1, hj2⟩ := moveL_iff.1 hm
      rw [hm] at e3
      rw [playedL_eq hm] at o3
      obtain ⟨R, C, hS⟩ := sides_of hb
      obtain ⟨P, rfl, hP⟩ := player_of hpl
      obtain ⟨rfl, rfl, _⟩ := id hS
      have hP' : 3 - P = 1 ∨ 3 - P = 2 := by omega
      have e4 := other_W g lf n (by omega) h3 hP
      have hS2 := sides_set hb hS (k := k) hP
      have e5' := specReverse_calls g lf n (by omega) (R : Int) (C : Int) ((3 - P : Nat) : Int) o3.int (by rw [List.length_set]; omega) (by rw [List.length_set]; omega) hlf
      rw [show ((3 - P : Nat) : Int) = 3 - (P : Int) by omega] at e4 e5'
      obtain ⟨h5, e5, k5⟩ := e5'
      have kk : Keep h.length h h5 := (k2.trans (k3.mono k2.1)).trans (k5.mono (Nat.le_trans k2.1 k3.1))
      have o5 := (o2.keep k3).keep k5
      have hw : safeWB (R : Int) (C : Int) xs (P : Int) k = decide (revL (R : Int) (C : Int) (xs.set k (P : Int)) (3 - (P : Int)) = (P : Int)) := by unfold safeWB; rw [hm, Bool.true_and]
      rw [hw] at hL
      repeat (first | with_reducible refine wT ?_ | with_reducible refine wg1 rfl ?_ | with_reducible refine wpv ?_ | with_reducible refine wsm ?_ | with_reducible refine wx0 ?_ | with_reducible refine wx1 ?_ | with_reducible refine wbd (by assumption) ?_ | with_reducible refine wlen (by assumption) ?_ | with_reducible refine wlssT (by omega) ?_ | dsimp only)
      refine weql (fun e => ?_) (fun e => ?_)
      · rw [decide_eq_true e, if_pos rfl] at hL
        repeat (first | with_reducible refine wT ?_ | with_reducible refine wpT ?_ | (refine wap o5 kk.1 (by omega) fun p' h6 o6 k6 => ?_) | with_reducible refine wadd1 (by omega) ?_ | dsimp only)
        exact next _ _ (Nat.lt_succ_self m) ⟨k + 1, ys ++ [(k : Int)], p', h6, rfl, by omega, by simp; omega, by rw [List.append_assoc]; exact hL, o6, kk.trans k6⟩
      · rw [decide_eq_false e, if_neg (by decide)] at hL
        repeat (first | with_reducible refine wF ?_ | with_reducible refine wpT ?_ | with_reducible refine wadd1 (by omega) ?_)
        exact next _ _ (Nat.lt_succ_self m) ⟨k + 1, ys, q, h5, rfl, by omega, by omega, hL, o5, kk⟩

/-! ### square boards -/
theorem specSquare_calls (N : Nat) (hN : 19 ≤ N) (s : Int) (h : PHeap) (hlf : 1000 < lf) :
    ∃ h', CL g lf N fn_spec_SquareReverse [.int .i64 s] h = some (.int .i64 (squareL s), h') ∧ Keep h.length h h' := by
  obtain ⟨n, rfl⟩ : ∃ n, N = n + 1 := ⟨N - 1, by omega⟩
  have hin1 : CL g lf n fn_spec_l1In [.int .i64 s, .int .i64 1, .int .i64 3] h = some (.bool (decide (1 ≤ s ∧ s ≤ 3)), h) := l1In_N g lf n (by omega) h s 1 3
  have : W (CL g lf (n + 1) fn_spec_SquareReverse [.int .i64 s] h) fun v h' => v = .int .i64 (squareL s) ∧ Keep h.length h h' := by
    rw [spec_SquareReverse.call_eq]
    unfold spec_SquareReverse.main
    simp only [env_C, env_bin, env_un, env_make]
    by_cases hs : 1 ≤ s ∧ s ≤ 3
    · rw [decide_eq_true hs] at hin1
      obtain ⟨S, rfl⟩ := Int.eq_ofNat_of_zero_le (show 0 ≤ s by omega)
      have hS9 : S * S ≤ 9 := Nat.mul_le_mul (show S ≤ 3 by omega) (show S ≤ 3 by omega)
      repeat (first | with_reducible refine wF ?_ | with_reducible refine wnT ?_ | with_reducible refine wbd (by assumption) ?_ | with_reducible refine wmulN (by omega) ?_ | dsimp only)
      refine wmake (by omega) fun p h1 o1 k1 => ?_
      obtain ⟨h2, e2, k2⟩ := specReverse_calls g lf n (by omega) (S : Int) (S : Int) 1 o1.int (by rw [List.length_replicate]; omega) (by rw [List.length_replicate]; omega) hlf
      rw [square_rev (by omega) (by omega)] at e2
      repeat (first | with_reducible refine wrI ?_ | with_reducible refine wbd (by assumption) ?_ | dsimp only)
      exact W.ret ⟨rfl, k1.trans (k2.mono k1.1)⟩
    · rw [decide_eq_false hs] at hin1
      have h0 : squareL s = 0 := by
        unfold squareL
        rw [if_neg (by omega), if_neg (by omega), if_neg (by omega)]
      repeat (first | with_reducible refine wT ?_ | with_reducible refine wnF ?_ | with_reducible refine wrI ?_ | with_reducible refine wbd (by assumption) ?_ | dsimp only)
      exact W.ret ⟨by rw [h0], Keep.refl _ _⟩
  obtain ⟨_, h', e, rfl, k⟩ := this
  exact ⟨h', e, k⟩

end Go.Proofs.YtocjdekcmhgjeaaDoor

/- The laws of chapter 8, the reverse game, over what the program's functions are asked to compute. -/
set_option maxRecDepth 20000
namespace Go.Proofs.YtocjdekcmhgjeaaDoor
open Go Go.Ip G

/-- What is asked of the program's functions of chapter 8. -/
def ReverseOk (g : Nat → PV) (lf : Nat) : Prop := ∀ (N : Nat), 40 ≤ N → ∀ (r c t : Int) {xs : List Int} {p : PV} {h : PHeap}, TabOk g h → IntSl .i64 h p xs → xs.length ≤ 2 ^ 35 → xs.length < lf →
  ∃ h', CL g lf N fn_impl_ReverseWinner [.int .i64 r, .int .i64 c, p, .int .i64 t] h = some (.int .i64 (revL r c xs t), h') ∧ Keep h.length h h'
def SafeOk (g : Nat → PV) (lf : Nat) : Prop := ∀ (N : Nat), 40 ≤ N → ∀ (r c pl : Int) {xs : List Int} {p : PV} {h : PHeap}, TabOk g h → IntSl .i64 h p xs → xs.length ≤ 2 ^ 35 → xs.length < lf →
  ∃ q h', CL g lf N fn_impl_SafeCells [.int .i64 r, .int .i64 c, p, .int .i64 pl] h = some (q, h') ∧ OwnSl h.length h' q (safeL r c xs pl) ∧ Keep h.length h h'
def SquareOk (g : Nat → PV) (lf : Nat) : Prop := ∀ (N : Nat), 40 ≤ N → ∀ (s : Int) {h : PHeap}, TabOk g h →
  ∃ h', CL g lf N fn_impl_SquareReverse [.int .i64 s] h = some (.int .i64 (squareL s), h') ∧ Keep h.length h h'

theorem safe_in {r c : Int} {xs : List Int} {pl : Int} {k : Nat} : decide ((k : Int) ∈ safeL r c xs pl) = safeWB r c xs pl k := by
  rw [Bool.eq_iff_iff, decide_eq_true_iff, safe_mem]
  constructor
  · rintro ⟨j, hj, hw⟩
    have : k = j := by omega
    rw [this]; exact hw
  · intro h; exact ⟨k, rfl, h⟩

theorem cellsFrom_has0 (x : Int) : ∀ (ys : List Int) (i j : Nat), ys[j]? = some x → ((i + j : Nat) : Int) ∈ cellsFrom x i ys
  | [], _, _, h => by simp at h
  | y :: ys, i, 0, h => by
    have : y = x := by simpa using h
    rw [cellsFrom, if_pos this]; exact List.mem_cons_self ..
  | y :: ys, i, j + 1, h => by
    have h' : ys[j]? = some x := by simpa using h
    have := cellsFrom_has0 x ys (i + 1) j h'
    rw [show i + 1 + j = i + (j + 1) by omega] at this
    rw [cellsFrom]; split
    · exact List.mem_cons_of_mem _ this
    · exact this
theorem last_ofR {R C : Nat} {zs : List Int} (hb : posB (R : Int) (C : Int) zs = true) {T : Nat} (hT : T = 1 ∨ T = 2) {J : Nat} (h0 : ∀ j : Nat, zs[j]? = some 0 ↔ j = J) (j1 : joinsL (R : Int) (C : Int) zs 1 = false) (j2 : joinsL (R : Int) (C : Int) zs 2 = false) : revL (R : Int) (C : Int) zs (T : Int) = 3 - (T : Int) ∧ winL (R : Int) (C : Int) zs (T : Int) = (T : Int) := by
  have hS := sides_pos hb
  have hB := board_of_sides hS
  have hlen : zs.length = R * C := hS.2.2.2.2.2.2.2.1
  rw [joins_one hb] at j1
  rw [joins_two hb] at j2
  have hJ := (h0 J).2 rfl
  have hJl : J < R * C := by have := (List.getElem?_eq_some_iff.1 hJ).1; omega
  obtain ⟨e1, e2⟩ := last_cell hB (pos_sets hS) hT j1 j2 hJl ((free_bit hS hJl).2 hJ) fun j hj hne => by
    cases e : (setL zs 1 ||| setL zs 2).testBit j with
    | true => rfl
    | false => exact (hne ((h0 j).1 ((free_bit hS hj).1 e))).elim
  exact ⟨by rw [revL_eq hb hT, e2]; omega, by rw [winL_eq hb hT, e1]⟩
/-- What the last cell's law fills: all free cells but the first one, up to the i-th. -/
def Filled1 (r c : Int) (L : List Int) (i : Nat) (zs : List Int) : Prop := posB r c zs = true ∧ ∀ j : Nat, zs[j]? = some 0 ↔ ∃ m : Nat, (m = 0 ∨ i ≤ m) ∧ L[m]? = some (j : Int)
theorem cellsL_at {r c : Int} {xs : List Int} (hb : posB r c xs = true) (j : Nat) : (∃ m : Nat, (cellsL r c xs 0)[m]? = some (j : Int)) ↔ xs[j]? = some 0 := by
  have hcl : cellsL r c xs 0 = cellsFrom 0 0 xs := by unfold cellsL; rw [hb]; rfl
  rw [hcl]
  constructor
  · rintro ⟨m, hm⟩
    obtain ⟨k, hk, hx⟩ := cellsFrom_mem 0 xs 0 _ (List.mem_of_getElem? hm)
    have : j = k := by omega
    rw [this]; exact hx
  · intro h
    have hm : (j : Int) ∈ cellsFrom 0 0 xs := by
      have := cellsFrom_has0 0 xs 0 j h
      rwa [Nat.zero_add] at this
    exact List.getElem?_of_mem hm
theorem cellsL_inj {r c : Int} {xs : List Int} {a b : Nat} {x : Int} (ha : (cellsL r c xs 0)[a]? = some x) (hb : (cellsL r c xs 0)[b]? = some x) : a = b := by
  have hs : (cellsL r c xs 0).Pairwise (· < ·) := by
    unfold cellsL; split
    · exact cellsFrom_sorted 0 xs 0
    · exact List.Pairwise.nil
  obtain ⟨a1, a2⟩ := List.getElem?_eq_some_iff.1 ha
  obtain ⟨b1, b2⟩ := List.getElem?_eq_some_iff.1 hb
  rcases Nat.lt_trichotomy a b with h | h | h
  · have := List.pairwise_iff_getElem.1 hs a b a1 b1 h; omega
  · exact h
  · have := List.pairwise_iff_getElem.1 hs b a b1 a1 h; omega
theorem Filled1.start {r c : Int} {xs : List Int} (hb : posB r c xs = true) : Filled1 r c (cellsL r c xs 0) 1 xs := by
  refine ⟨hb, fun j => ?_⟩
  rw [← cellsL_at hb]
  constructor
  · rintro ⟨m, hm⟩; exact ⟨m, by omega, hm⟩
  · rintro ⟨m, _, hm⟩; exact ⟨m, hm⟩
theorem Filled1.step {R C : Nat} {xs zs : List Int} {i J P : Nat} (h : Filled1 (R : Int) (C : Int) (cellsL (R : Int) (C : Int) xs 0) i zs) (hi : 1 ≤ i) (hJ : (cellsL (R : Int) (C : Int) xs 0)[i]? = some (J : Int)) (hP : P = 1 ∨ P = 2) : Filled1 (R : Int) (C : Int) (cellsL (R : Int) (C : Int) xs 0) (i + 1) (zs.set J (P : Int)) := by
  refine ⟨pos_set h.1 hP J, fun j => ?_⟩
  rw [List.getElem?_set]
  by_cases e : J = j
  · subst e
    rw [if_pos rfl]
    constructor
    · intro hh
      split at hh
      · have := Option.some.inj hh; omega
      · cases hh
    · rintro ⟨m, hm, hm2⟩
      have := cellsL_inj hm2 hJ; omega
  · rw [if_neg e, h.2 j]
    constructor
    · rintro ⟨m, hm, hm2⟩
      refine ⟨m, ?_, hm2⟩
      rcases hm with hm | hm
      · exact .inl hm
      · refine .inr ?_
        rcases Nat.lt_or_ge i m with h' | h'
        · exact h'
        · have : m = i := by omega
          subst this
          rw [hJ] at hm2
          have := Option.some.inj hm2; omega
    · rintro ⟨m, hm, hm2⟩; exact ⟨m, by omega, hm2⟩

variable (g : Nat → PV) (lf n : Nat)

theorem drawReverseWinner_W {p : PV} {ys : List Int} {h : PHeap} (N : Nat) (hN : 7 ≤ N) (ha : Arg h p ys) (hlf : 20 < lf) :
    ∃ (r c : Int) (q : PV) (xs : List Int) (pl : Int) (h' : PHeap), CL g lf N fn_spec_DrawReverseWinner [p] h = some (.tup [.int .i64 r, .int .i64 c, q, .int .i64 pl], h') ∧ Keep h.length h h' ∧ IntSl .i64 h' q xs ∧ xs.length ≤ 10 ∧ 1 ≤ pl ∧ pl ≤ 4 := by
  obtain ⟨n, rfl⟩ : ∃ n, N = n + 1 := ⟨N - 1, by omega⟩
  have : W (CL g lf (n + 1) fn_spec_DrawReverseWinner [p] h) fun v h' => ∃ (r c : Int) (q : PV) (xs : List Int) (pl : Int), v = .tup [.int .i64 r, .int .i64 c, q, .int .i64 pl] ∧ Keep h.length h h' ∧ IntSl .i64 h' q xs ∧ xs.length ≤ 10 ∧ 1 ≤ pl ∧ pl ≤ 4 := by
    obtain ⟨h1, e1, r1, k1⟩ := open_calls g lf n (by omega) ha
    rw [spec_DrawReverseWinner.call_eq]
    unfold spec_DrawReverseWinner.main
    simp only [env_C, env_extract]
    repeat (first | with_reducible refine wbd (by assumption) ?_ | dsimp only)
    refine wcall (few_W g lf n (by omega) _ r1 (by omega) hlf) fun v h2 ⟨r, c, q, xs, pl, hv, k2, o2, hl, hp1, hp2⟩ => ?_
    subst hv
    repeat (first | with_reducible refine wrI ?_ | with_reducible refine wx0 ?_ | with_reducible refine wx1 ?_ | with_reducible refine wx2 ?_ | with_reducible refine wx3 ?_ | with_reducible refine wresO (by assumption) ?_ | dsimp only)
    exact W.ret ⟨r, c, q, xs, pl, rfl, k1.trans k2, o2.int, hl, hp1, hp2⟩
  obtain ⟨v, h', e, r, c, q, xs, pl, rfl, rest⟩ := this
  exact ⟨r, c, q, xs, pl, h', e, rest⟩


theorem drawSafeCells_W {p : PV} {ys : List Int} {h : PHeap} (N : Nat) (hN : 7 ≤ N) (ha : Arg h p ys) (hlf : 20 < lf) :
    ∃ (r c : Int) (q : PV) (xs : List Int) (pl : Int) (h' : PHeap), CL g lf N fn_spec_DrawSafeCells [p] h = some (.tup [.int .i64 r, .int .i64 c, q, .int .i64 pl], h') ∧ Keep h.length h h' ∧ IntSl .i64 h' q xs ∧ xs.length ≤ 10 ∧ 1 ≤ pl ∧ pl ≤ 4 := by
  obtain ⟨n, rfl⟩ : ∃ n, N = n + 1 := ⟨N - 1, by omega⟩
  have : W (CL g lf (n + 1) fn_spec_DrawSafeCells [p] h) fun v h' => ∃ (r c : Int) (q : PV) (xs : List Int) (pl : Int), v = .tup [.int .i64 r, .int .i64 c, q, .int .i64 pl] ∧ Keep h.length h h' ∧ IntSl .i64 h' q xs ∧ xs.length ≤ 10 ∧ 1 ≤ pl ∧ pl ≤ 4 := by
    obtain ⟨h1, e1, r1, k1⟩ := open_calls g lf n (by omega) ha
    rw [spec_DrawSafeCells.call_eq]
    unfold spec_DrawSafeCells.main
    simp only [env_C, env_extract]
    repeat (first | with_reducible refine wbd (by assumption) ?_ | dsimp only)
    refine wcall (few_W g lf n (by omega) _ r1 (by omega) hlf) fun v h2 ⟨r, c, q, xs, pl, hv, k2, o2, hl, hp1, hp2⟩ => ?_
    subst hv
    repeat (first | with_reducible refine wrI ?_ | with_reducible refine wx0 ?_ | with_reducible refine wx1 ?_ | with_reducible refine wx2 ?_ | with_reducible refine wx3 ?_ | with_reducible refine wresO (by assumption) ?_ | dsimp only)
    exact W.ret ⟨r, c, q, xs, pl, rfl, k1.trans k2, o2.int, hl, hp1, hp2⟩
  obtain ⟨v, h', e, r, c, q, xs, pl, rfl, rest⟩ := this
  exact ⟨r, c, q, xs, pl, h', e, rest⟩


theorem lit8 (h : PHeap) : buildSliceP Tryd.prog 23 8 [(0, .int .i64 1), (1, .int .i64 2), (2, .int .i64 1), (3, .int .i64 2), (4, .int .i64 0), (5, .int .i64 4), (6, .int .i64 3), (7, .int .i64 2)] h = some (.sl h.length 0 8, h ++ [.own 1 ([1, 2, 1, 2, 0, 4, 3, 2].map (.int .i64))]) := by
  simp [buildSliceP, tyElem, tySize, tyZero, repeatCells, fillP, PV.cells, setCells]
theorem wlit8 {Q : PV → PHeap → Prop} {h : PHeap} {F : PV × PHeap → Res} (hf : ∀ p h', OwnSl h.length h' p [1, 2, 1, 2, 0, 4, 3, 2] → Keep h.length h h' → W (F (p, h')) Q) : W ((buildSliceP Tryd.prog 23 8 [(0, .int .i64 1), (1, .int .i64 2), (2, .int .i64 1), (3, .int .i64 2), (4, .int .i64 0), (5, .int .i64 4), (6, .int .i64 3), (7, .int .i64 2)] h).bind F) Q :=
  wbd (lit8 h) (hf _ _ (.inr ⟨h.length, Nat.le_refl _, rfl, by simp⟩) (Keep.append _ _ _ (Nat.le_refl _)))
theorem Arg.keep {h h' : PHeap} {p : PV} {xs : List Int} (a : Arg h p xs) (k : Keep h.length h h') : Arg h' p xs := by
  refine ⟨fun h2 k2 => a.1 h2 ((k.mono a.2.1).trans k2), Nat.le_trans a.2.1 k.1, fun id off len e hl => ?_, a.2.2.2⟩
  obtain ⟨h0, h1⟩ := a.2.2.1 id off len e hl
  refine ⟨h0, ?_⟩
  have := k.2 id (by have := a.2.1; omega)
  unfold eszAt at h1 ⊢
  rw [this]; exact h1
theorem drawSquare_W {p : PV} {ys : List Int} {h : PHeap} (N : Nat) (hN : 7 ≤ N) (ha : Arg h p ys) :
    ∃ (s : Int) (h' : PHeap), CL g lf N fn_spec_DrawSquareReverse [p] h = some (.int .i64 s, h') ∧ Keep h.length h h' := by
  obtain ⟨n, rfl⟩ : ∃ n, N = n + 1 := ⟨N - 1, by omega⟩
  have : W (CL g lf (n + 1) fn_spec_DrawSquareReverse [p] h) fun v h' => ∃ s, v = .int .i64 s ∧ Keep h.length h h' := by
    rw [spec_DrawSquareReverse.call_eq]
    unfold spec_DrawSquareReverse.main
    simp only [env_C, env_buildSlice, env_load, env_indexAddr]
    refine wlit8 fun q h1 o1 k1 => ?_
    obtain ⟨h2, e2, r2, k2⟩ := open_calls g lf n (by omega) (ha.keep k1)
    obtain ⟨v, h3, e3, r3, o3, v0, v1, _⟩ := pick_calls g lf n (by omega) 8 r2 (by omega) (by omega)
    obtain ⟨V, rfl⟩ := Int.eq_ofNat_of_zero_le v0
    have hV : V < 8 := by omega
    have k3 : Keep h1.length h1 h3 := k2.trans o3.keep
    repeat (first | with_reducible refine wrI ?_ | with_reducible refine wbd (by assumption) ?_ | (refine wat (o1.int.fix _ k3) (show V < 8 from hV) fun a hl => ?_) | dsimp only)
    skip
    exact W.ret ⟨_, rfl, k1.trans (k3.mono k1.1)⟩
  obtain ⟨v, h', e, s, rfl, k⟩ := this
  exact ⟨s, h', e, k⟩

theorem exactReverseWinner_calls (hok : ReverseOk g lf) {xs : List Int} {p : PV} {h : PHeap} (N : Nat) (hN : 41 ≤ N) (r c x : Int) (ht : TabOk g h) (hp : IntSl .i64 h p xs) (hf : 1048576 < lf) :
    ∃ h', CL g lf N fn_laws_FnExactReverseWinner [.int .i64 r, .int .i64 c, p, .int .i64 x] h = some (.bool true, h') := by
  obtain ⟨n, rfl⟩ : ∃ n, N = n + 1 := ⟨N - 1, by omega⟩
  apply W.yes
  rw [laws_FnExactReverseWinner.call_eq]
  unfold laws_FnExactReverseWinner.main
  simp only [env_C, env_bin, env_un, env_len]
  have hlen := hp.len'
  by_cases hbig : (1048576 : Int) < (xs.length : Int)
  · repeat (first | with_reducible refine wT ?_ | with_reducible refine wrB ?_ | with_reducible refine wbd (by assumption) ?_ | with_reducible refine wgtrT (by omega) ?_)
    exact W.ret rfl
  · obtain ⟨q1, h1, e1, o1, k1⟩ := toIntS_calls g lf n (by omega) hp (by omega) (by omega)
    obtain ⟨h2, e2, k2⟩ := specReverse_calls g lf n (by omega) r c x o1.int (by omega) (by omega) (by omega)
    have K2 : Keep h.length h h2 := k1.trans (k2.mono k1.1)
    obtain ⟨q3, h3, e3, o3, k3⟩ := toIntS_calls g lf n (by omega) (hp.keep K2) (by omega) (by omega)
    have K3 : Keep h.length h h3 := K2.trans (k3.mono K2.1)
    obtain ⟨h4, e4, k4⟩ := hok n (by omega) r c x (ht.keep K3) o3.int (by omega) (by omega)
    have K4 : Keep h.length h h4 := K3.trans (k4.mono K3.1)
    obtain ⟨q5, h5, e5, o5, k5⟩ := toIntS_calls g lf n (by omega) (hp.keep K4) (by omega) (by omega)
    have e6 := eqIntS_N g lf n (by omega) ((o3.keep k4).keep k5).int o5.int (by omega) (by omega)
    rw [decide_eq_true rfl] at e6
    repeat (first | with_reducible refine wF ?_ | with_reducible refine wnT ?_ | with_reducible refine wrB ?_ | with_reducible refine wbd (by assumption) ?_ | with_reducible refine wgtrF (by omega) ?_ | with_reducible refine wneqF (by omega) ?_ | dsimp only)
    exact W.ret rfl


theorem exactSafeCells_calls (hok : SafeOk g lf) {xs : List Int} {p : PV} {h : PHeap} (N : Nat) (hN : 41 ≤ N) (r c x : Int) (ht : TabOk g h) (hp : IntSl .i64 h p xs) (hf : 1048576 < lf) :
    ∃ h', CL g lf N fn_laws_FnExactSafeCells [.int .i64 r, .int .i64 c, p, .int .i64 x] h = some (.bool true, h') := by
  obtain ⟨n, rfl⟩ : ∃ n, N = n + 1 := ⟨N - 1, by omega⟩
  rw [laws_FnExactSafeCells.call_eq]
  by_cases hbig : (1048576 : Int) < (xs.length : Int)
  · exact ⟨h, by simp [laws_FnExactSafeCells.main, hp.len', hbig]⟩
  · have hl : xs.length ≤ 1048576 := by omega
    have hL := safeL_length r c xs x
    obtain ⟨q1, h1, w, h2, q3, h3, g0, h4, y, h5, h6, h7, q8, h8, g1, h9, e1, e2, e3, e4, e5, e6, e7, e8, e9, e10, e11, e12, e13, e14, e15⟩ := exact_chain2 g lf n (by omega)
      (fun q h => CL g lf n fn_spec_SafeCells [.int .i64 r, .int .i64 c, q, .int .i64 x] h) (fun q h => CL g lf n fn_impl_SafeCells [.int .i64 r, .int .i64 c, q, .int .i64 x] h)
      (fun q hh _ hq => specSafeCells_calls g lf n (by omega) r c x hq (by omega) (by omega) (by omega)) (fun q hh hk hq => hok n (by omega) r c x (ht.keep hk) hq (by omega) (by omega)) hp hl (by omega) hf
    refine ⟨h9, ?_⟩
    have c1 : ¬ ((1 : Int) + (xs.length : Int) < 0) := by omega
    have c2 : ¬ ((1 : Int) + ((safeL r c xs x).length : Int) < 0) := by omega
    simp [laws_FnExactSafeCells.main, hp.len', hbig, e1, e2, e3, e4, e5, e6, e7, e8, e9, e10, e11, e12, e13, e14, e15, c1, c2]


theorem exactSquareReverse_calls (hok : SquareOk g lf) {h : PHeap} (N : Nat) (hN : 42 ≤ N) (s : Int) (ht : TabOk g h) (hf : 1048576 < lf) :
    ∃ h', CL g lf N fn_laws_FnExactSquareReverse [.int .i64 s] h = some (.bool true, h') := by
  obtain ⟨n, rfl⟩ : ∃ n, N = n + 1 := ⟨N - 1, by omega⟩
  apply W.yes
  obtain ⟨h1, e1, k1⟩ := specSquare_calls g lf n (by omega) s h (by omega)
  obtain ⟨h2, e2, k2⟩ := hok n (by omega) s (ht.keep k1)
  rw [laws_FnExactSquareReverse.call_eq]
  unfold laws_FnExactSquareReverse.main
  simp only [env_C, env_bin]
  repeat (first | with_reducible refine wF ?_ | with_reducible refine wrB ?_ | with_reducible refine wbd (by assumption) ?_ | with_reducible refine wneqF (by omega) ?_ | dsimp only)
  exact W.ret rfl

theorem fnReverseWinner_calls (hW : ReverseOk g lf) {p : PV} {ys : List Int} {h : PHeap} (N : Nat) (hN : 45 ≤ N) (ha : Arg h p ys) (hlf : 1000 < lf) (ht : TabOk g h) :
    ∃ h', CL g lf N fn_laws_FnReverseWinner [p] h = some (.bool true, h') := by
  obtain ⟨n, rfl⟩ : ∃ n, N = n + 1 := ⟨N - 1, by omega⟩
  apply W.yes
  rw [laws_FnReverseWinner.call_eq]
  unfold laws_FnReverseWinner.main
  simp only [env_C, env_pick, env_bin, env_un, env_extract, env_len]
  have hlenp : lenP Tryd.prog 22 p = some (.int .i64 ys.length) := (ha.1 h (Keep.refl _ _)).len tyB
  by_cases hbig : (1048576 : Int) < (ys.length : Int)
  · repeat (first | with_reducible refine wT ?_ | with_reducible refine wrB ?_ | with_reducible refine wbd (by assumption) ?_ | with_reducible refine wgtrT (by omega) ?_)
    exact W.ret rfl
  obtain ⟨r, c, q, xs, pl, h1, e1, k1, hq0, hl, hp1, hp2⟩ := drawReverseWinner_W g lf n (by omega) ha (by omega)
  have htF := tabF ht k1
  have hq : Fix h1.length h1 q xs := hq0.fix
  have hb1 : h1.length ≤ h1.length := Nat.le_refl _
  have k0 : Keep h1.length h1 h1 := Keep.refl _ _
  have hpos : ∀ h2, Keep h1.length h1 h2 → CL g lf n fn_spec_PositionOk [.int .i64 r, .int .i64 c, q] h2 = some (.bool (posB r c xs), h2) := fun h2 k2 => specPositionOk_N g lf n (by omega) r c (hq h2 k2) (by omega) (by omega)
  have hal : ∀ h2, CL g lf n fn_laws_alive [] h2 = some (.bool true, h2) := fun h2 => alive_calls g lf n (by omega) h2
  have hI : ∀ h2, Keep h1.length h1 h2 → ∃ h', CL g lf n fn_impl_ReverseWinner [.int .i64 r, .int .i64 c, q, .int .i64 pl] h2 = some (.int .i64 (revL r c xs pl), h') ∧ Keep h2.length h2 h' := fun h2 k2 => hW n (by omega) r c pl (htF _ k2) (hq _ k2) (by omega) (by omega)
  have hSp : ∀ h2, Keep h1.length h1 h2 → ∃ h', CL g lf n fn_spec_ReverseWinner [.int .i64 r, .int .i64 c, q, .int .i64 pl] h2 = some (.int .i64 (revL r c xs pl), h') ∧ Keep h2.length h2 h' := fun h2 k2 => specReverse_calls g lf n (by omega) r c pl (hq _ k2) (by omega) (by omega) hlf
  cases hb : posB r c xs with
  | false =>
    rw [revL_none (.inl hb)] at hI hSp
    rw [hb] at hpos
    repeat (first | with_reducible refine wT ?_ | with_reducible refine wF ?_ | with_reducible refine wg1 rfl ?_ | with_reducible refine wg0 rfl ?_ | with_reducible refine wpT ?_ | with_reducible refine wnF ?_ | with_reducible refine wsm ?_ | with_reducible refine wrB ?_ | with_reducible refine wx0 ?_ | with_reducible refine wx1 ?_ | with_reducible refine wx2 ?_ | with_reducible refine wx3 ?_ | with_reducible refine wbd (by assumption) ?_ | (with_reducible refine wbd (hpos _ (by assumption)) ?_) | (with_reducible refine wbd (hal _) ?_) | (with_reducible refine wcv (hI _ (by assumption)) (by assumption) hb1 fun _ _ => ?_) | (with_reducible refine wcv (hSp _ (by assumption)) (by assumption) hb1 fun _ _ => ?_) | with_reducible refine wgtrF (by omega) ?_ | with_reducible refine weqlT (by omega) ?_ | with_reducible refine wneqF (by omega) ?_ | dsimp only)
    exact W.ret rfl
  | true =>
  rw [hb] at hpos
  by_cases hpl : 2 < pl
  · rw [revL_none (.inr hpl)] at hI hSp
    repeat (first | with_reducible refine wT ?_ | with_reducible refine wF ?_ | with_reducible refine wg1 rfl ?_ | with_reducible refine wpT ?_ | with_reducible refine wpF ?_ | with_reducible refine wnT ?_ | with_reducible refine wpv ?_ | with_reducible refine wsm ?_ | with_reducible refine wrB ?_ | with_reducible refine wx0 ?_ | with_reducible refine wx1 ?_ | with_reducible refine wx2 ?_ | with_reducible refine wx3 ?_ | with_reducible refine wbd (by assumption) ?_ | (with_reducible refine wbd (hpos _ (by assumption)) ?_) | (with_reducible refine wbd (hal _) ?_) | (with_reducible refine wcv (hI _ (by assumption)) (by assumption) hb1 fun _ _ => ?_) | (with_reducible refine wcv (hSp _ (by assumption)) (by assumption) hb1 fun _ _ => ?_) | with_reducible refine wgtrT (by omega) ?_ | with_reducible refine wgtrF (by omega) ?_ | with_reducible refine weqlT (by omega) ?_ | with_reducible refine wneqF (by omega) ?_ | dsimp only)
    exact W.ret rfl
  obtain ⟨R, C, hS⟩ := sides_of hb
  obtain ⟨T, rfl⟩ := Int.eq_ofNat_of_zero_le (show 0 ≤ pl by omega)
  have hT : T = 1 ∨ T = 2 := by omega
  obtain ⟨rfl, rfl, s1, s2, s3, s4, s9, slen, sall⟩ := id hS
  obtain ⟨V, hV, hV2⟩ := revL_cases hb hT
  rw [hV] at hI hSp
  have htl : turnL (R : Int) (C : Int) xs = xs.reverse := by unfold turnL; rw [hb]; rfl
  have hml : mirL (R : Int) (C : Int) xs = mir R C xs := by unfold mirL; rw [hb]; rfl
  have hTu : ∀ h2, Keep h1.length h1 h2 → ∃ q' h', CL g lf n fn_impl_HalfTurned [.int .i64 (R : Int), .int .i64 (C : Int), q] h2 = some (q', h') ∧ OwnSl h2.length h' q' xs.reverse ∧ Keep h2.length h2 h' := fun h2 k2 => by
    have := halfTurned_calls g lf n (by omega) (R : Int) (C : Int) (hq _ k2) (by omega) (by omega)
    rw [htl] at this; exact this
  have hMi : ∀ h2, Keep h1.length h1 h2 → ∃ q' h', CL g lf n fn_impl_Mirrored [.int .i64 (R : Int), .int .i64 (C : Int), q] h2 = some (q', h') ∧ OwnSl h2.length h' q' (mir R C xs) ∧ Keep h2.length h2 h' := fun h2 k2 => by
    have := mirrored_calls g lf n (by omega) (R : Int) (C : Int) (hq _ k2) (by omega) (by omega)
    rw [hml] at this; exact this
  have hbr : posB (R : Int) (C : Int) xs.reverse = true := by
    unfold posB at hb ⊢; rw [List.length_reverse, List.all_reverse]; exact hb
  have hbm := posB_mir hS hb
  have hTW : ∀ h2, Keep h1.length h1 h2 → ∀ {q2 : PV}, IntSl .i64 h2 q2 xs.reverse → ∃ h', CL g lf n fn_impl_ReverseWinner [.int .i64 (R : Int), .int .i64 (C : Int), q2, .int .i64 (T : Int)] h2 = some (.int .i64 (V : Int), h') ∧ Keep h2.length h2 h' := fun h2 k2 q2 i2 => by
    have := hW n (by omega) (R : Int) (C : Int) (T : Int) (htF _ k2) i2 (by rw [List.length_reverse]; omega) (by rw [List.length_reverse]; omega)
    rw [revL_turned hb hS hT hbr, hV] at this; exact this
  have hMW : ∀ h2, Keep h1.length h1 h2 → ∀ {q2 : PV}, IntSl .i64 h2 q2 (mir R C xs) → ∃ h', CL g lf n fn_impl_ReverseWinner [.int .i64 (C : Int), .int .i64 (R : Int), q2, .int .i64 (3 - (T : Int))] h2 = some (.int .i64 (3 - (V : Int)), h') ∧ Keep h2.length h2 h' := fun h2 k2 q2 i2 => by
    have := hW n (by omega) (C : Int) (R : Int) ((3 - T : Nat) : Int) (htF _ k2) i2 (by rw [mir_length]; omega) (by rw [mir_length]; omega)
    rw [revL_mirrored hb hS hT hbm, hV, show ((3 - T : Nat) : Int) = 3 - (T : Int) by omega] at this; exact this
  rcases hV2 with hV1 | hV1
  all_goals
    repeat (first | with_reducible refine wF ?_ | with_reducible refine wg1 rfl ?_ | with_reducible refine wg0 rfl ?_ | with_reducible refine wpT ?_ | with_reducible refine wpF ?_ | with_reducible refine wnT ?_ | with_reducible refine wpv ?_ | with_reducible refine wsm ?_ | with_reducible refine wrB ?_ | with_reducible refine wx0 ?_ | with_reducible refine wx1 ?_ | with_reducible refine wx2 ?_ | with_reducible refine wx3 ?_ | with_reducible refine wbd (by assumption) ?_ | (with_reducible refine wbd (hpos _ (by assumption)) ?_) | (with_reducible refine wcv (hI _ (by assumption)) (by assumption) hb1 fun _ _ => ?_) | (with_reducible refine wcv (hSp _ (by assumption)) (by assumption) hb1 fun _ _ => ?_) | (with_reducible refine wcl (hTu _ (by assumption)) (by assumption) hb1 fun _ _ _ _ _ => ?_) | (with_reducible refine wcl (hMi _ (by assumption)) (by assumption) hb1 fun _ _ _ _ _ => ?_) | (with_reducible refine wcv (hTW _ (by assumption) (OwnSl.int (by assumption))) (by assumption) hb1 fun _ _ => ?_) | (with_reducible refine wcv (hMW _ (by assumption) (OwnSl.int (by assumption))) (by assumption) hb1 fun _ _ => ?_) | with_reducible refine wgtrF (by omega) ?_ | with_reducible refine weqlT (by omega) ?_ | with_reducible refine weqlF (by omega) ?_ | with_reducible refine wneqF (by omega) ?_ | with_reducible refine wsub (by omega) ?_ | dsimp only)
    exact W.ret rfl

theorem fnSafeCells_calls (hPl : PlayedOk g lf) (hW : ReverseOk g lf) (hWC : SafeOk g lf) (hJ : JoinsOk g lf) {p : PV} {ys : List Int} {h : PHeap} (N : Nat) (hN : 45 ≤ N) (ha : Arg h p ys) (hlf : 1000 < lf) (ht : TabOk g h) :
    ∃ h', CL g lf N fn_laws_FnSafeCells [p] h = some (.bool true, h') := by
  obtain ⟨n, rfl⟩ : ∃ n, N = n + 1 := ⟨N - 1, by omega⟩
  apply W.yes
  rw [laws_FnSafeCells.call_eq]
  unfold laws_FnSafeCells.main
  simp only [env_C, env_lf, env_pick, env_bin, env_un, env_extract, env_len]
  have hlenp : lenP Tryd.prog 22 p = some (.int .i64 ys.length) := (ha.1 h (Keep.refl _ _)).len tyB
  by_cases hbig : (1048576 : Int) < (ys.length : Int)
  · repeat (first | with_reducible refine wT ?_ | with_reducible refine wrB ?_ | with_reducible refine wbd (by assumption) ?_ | with_reducible refine wgtrT (by omega) ?_)
    exact W.ret rfl
  obtain ⟨r, c, q, xs, pl, h1, e1, k1, hq0, hl, hp1, hp2⟩ := drawSafeCells_W g lf n (by omega) ha (by omega)
  have htF := tabF ht k1
  have hq : Fix h1.length h1 q xs := hq0.fix
  have hb1 : h1.length ≤ h1.length := Nat.le_refl _
  have k0 : Keep h1.length h1 h1 := Keep.refl _ _
  have hpos : ∀ h2, Keep h1.length h1 h2 → CL g lf n fn_spec_PositionOk [.int .i64 r, .int .i64 c, q] h2 = some (.bool (posB r c xs), h2) := fun h2 k2 => specPositionOk_N g lf n (by omega) r c (hq h2 k2) (by omega) (by omega)
  have hal : ∀ h2, CL g lf n fn_laws_alive [] h2 = some (.bool true, h2) := fun h2 => alive_calls g lf n (by omega) h2
  obtain ⟨q2, h2, e2, o2, k2⟩ := hWC n (by omega) r c pl (htF _ k0) (hq _ k0) (by omega) (by omega)
  obtain ⟨q3, h3, e3, o3, k3⟩ := specSafeCells_calls g lf n (by omega) r c pl (hq _ k2) (by omega) (by omega) hlf
  have k13 := k2.trans (k3.mono k2.1)
  have hll := safeL_length r c xs pl
  have e4 := sameInts_N g lf n (by omega) (o2.keep k3).int o3.int (by omega) (by omega)
  rw [decide_eq_true rfl] at e4
  have o2' := o2.keep k3
  have f2 : Fix h3.length h3 q2 (safeL r c xs pl) := o2'.int.fix
  have empty : safeL r c xs pl = [] → lenP Tryd.prog 23 q2 = some (.int .i64 0) := fun hh => by
    have := o2'.int.len'
    rw [hh] at this; exact this
  cases hb : posB r c xs with
  | false =>
    have hlen := empty (safeL_none (.inl hb))
    rw [hb] at hpos
    repeat (first | with_reducible refine wT ?_ | with_reducible refine wF ?_ | with_reducible refine wg1 rfl ?_ | with_reducible refine wg0 rfl ?_ | with_reducible refine wpT ?_ | with_reducible refine wnT ?_ | with_reducible refine wnF ?_ | with_reducible refine wsm ?_ | with_reducible refine wrB ?_ | with_reducible refine wx0 ?_ | with_reducible refine wx1 ?_ | with_reducible refine wx2 ?_ | with_reducible refine wx3 ?_ | with_reducible refine wbd (by assumption) ?_ | (with_reducible refine wbd (hpos _ (by assumption)) ?_) | (with_reducible refine wbd (hal _) ?_) | (with_reducible refine weqlT rfl ?_) | with_reducible refine wgtrF (by omega) ?_ | dsimp only)
    exact W.ret rfl
  | true =>
  rw [hb] at hpos
  by_cases hpl : 2 < pl
  · have hlen := empty (safeL_none (.inr hpl))
    repeat (first | with_reducible refine wT ?_ | with_reducible refine wF ?_ | with_reducible refine wg1 rfl ?_ | with_reducible refine wpT ?_ | with_reducible refine wpF ?_ | with_reducible refine wnT ?_ | with_reducible refine wpv ?_ | with_reducible refine wsm ?_ | with_reducible refine wrB ?_ | with_reducible refine wx0 ?_ | with_reducible refine wx1 ?_ | with_reducible refine wx2 ?_ | with_reducible refine wx3 ?_ | with_reducible refine wbd (by assumption) ?_ | (with_reducible refine wbd (hpos _ (by assumption)) ?_) | (with_reducible refine wbd (hal _) ?_) | (with_reducible refine weqlT rfl ?_) | with_reducible refine wgtrT (by omega) ?_ | with_reducible refine wgtrF (by omega) ?_ | dsimp only)
    exact W.ret rfl
  obtain ⟨R, C, hS⟩ := sides_of hb
  obtain ⟨T, rfl⟩ := Int.eq_ofNat_of_zero_le (show 0 ≤ pl by omega)
  have hT : T = 1 ∨ T = 2 := by omega
  have hO : 3 - T = 1 ∨ 3 - T = 2 := by omega
  have e3' : (3 : Int) - (T : Int) = ((3 - T : Nat) : Int) := by omega
  obtain ⟨rfl, rfl, s1, s2, s3, s4, s9, slen, sall⟩ := id hS
  have hb3 : h3.length ≤ h3.length := Nat.le_refl _
  have hq3 : Fix h3.length h3 q xs := hq.re k13 hb1
  have htF3 : ∀ hh, Keep h3.length h3 hh → TabOk g hh := fun hh kk => htF hh (k13.trans (kk.mono k13.1))
  have hhas : ∀ hh, Keep h3.length h3 hh → ∀ i : Nat, CL g lf n fn_laws_hasInt [q2, .int .i64 (i : Int)] hh = some (.bool (safeWB (R : Int) (C : Int) xs (T : Int) i), hh) := fun hh kk i => by
    have := hasInt_N g lf n (by omega) (i : Int) (f2 _ kk) (by omega) (by omega)
    rw [safe_in] at this; exact this
  repeat (first | with_reducible refine wF ?_ | with_reducible refine wg1 rfl ?_ | with_reducible refine wpF ?_ | with_reducible refine wnT ?_ | with_reducible refine wpv ?_ | with_reducible refine wsm ?_ | with_reducible refine wx0 ?_ | with_reducible refine wx1 ?_ | with_reducible refine wx2 ?_ | with_reducible refine wx3 ?_ | with_reducible refine wbd (by assumption) ?_ | (with_reducible refine wbd (hpos _ (by assumption)) ?_) | with_reducible refine wgtrF (by omega) ?_ | with_reducible refine wsub (by omega) ?_ | dsimp only)
  refine loopW (fun m s => ∃ (i : Nat) (h4 : PHeap), s = laws_FnSafeCells.st0 (.int .i64 (R : Int)) (.int .i64 (C : Int)) q (.int .i64 (T : Int)) q2 (.int .i64 (3 - (T : Int))) (.int .i64 (i : Int)) h4 ∧ i + m = xs.length ∧ Keep h3.length h3 h4) ?_ lf xs.length _ (by omega) ⟨0, h3, rfl, by omega, Keep.refl _ _⟩
  rintro n1 m s ⟨i, h4, rfl, him, k4⟩ next
  have hlen4 := (hq3 _ k4).len'
  rw [laws_FnSafeCells.body0_eq]
  unfold laws_FnSafeCells.body0
  simp only [env_C, env_pick, env_bin, env_extract, env_len]
  cases m with
  | succ m =>
    obtain ⟨q5, h5, e5, o5, k5⟩ := hPl n (by omega) (R : Int) (C : Int) (i : Int) (T : Int) (htF3 _ k4) (hq3 _ k4) (by omega) (by omega)
    have k15 := k4.trans (k5.mono k4.1)
    cases hm : moveL (R : Int) (C : Int) xs (i : Int) (T : Int) with
    | false =>
      have hw : safeWB (R : Int) (C : Int) xs (T : Int) i = false := by unfold safeWB; rw [hm]; rfl
      have hha := hhas _ k15 i
      rw [hw] at hha
      rw [hm] at e5
      repeat (first | with_reducible refine wT ?_ | with_reducible refine wF ?_ | with_reducible refine wg0 rfl ?_ | with_reducible refine wpF ?_ | with_reducible refine wsm ?_ | with_reducible refine wx0 ?_ | with_reducible refine wx1 ?_ | with_reducible refine wbd (by assumption) ?_ | (with_reducible refine wneqBB ?_) | with_reducible refine wadd1 (by omega) ?_ | with_reducible refine wlssT (by omega) ?_ | dsimp only)
      exact next _ _ (Nat.lt_succ_self m) ⟨i + 1, h5, rfl, by omega, k15⟩
    | true =>
      rw [hm] at e5
      rw [playedL_eq hm] at o5
      obtain ⟨h6, e6, k6⟩ := hW n (by omega) (R : Int) (C : Int) (3 - (T : Int)) (htF3 _ k15) o5.int (by rw [List.length_set]; omega) (by rw [List.length_set]; omega)
      have k16 := k15.trans (k6.mono k15.1)
      have hha := hhas _ k16 i
      have hw : safeWB (R : Int) (C : Int) xs (T : Int) i = decide (revL (R : Int) (C : Int) (xs.set i (T : Int)) (3 - (T : Int)) = (T : Int)) := by unfold safeWB; rw [hm, Bool.true_and]
      rw [hw] at hha
      repeat (first | with_reducible refine wT ?_ | with_reducible refine wg1 rfl ?_ | with_reducible refine wpv ?_ | with_reducible refine wsm ?_ | with_reducible refine wx0 ?_ | with_reducible refine wx1 ?_ | with_reducible refine wbd (by assumption) ?_ | with_reducible refine wlssT (by omega) ?_ | dsimp only)
      refine weql (fun e => ?_) (fun e => ?_)
      · rw [decide_eq_true e] at hha
        repeat (first | with_reducible refine wF ?_ | with_reducible refine wpT ?_ | with_reducible refine wbd (by assumption) ?_ | (with_reducible refine wneqBB ?_) | with_reducible refine wadd1 (by omega) ?_ | dsimp only)
        exact next _ _ (Nat.lt_succ_self m) ⟨i + 1, h6, rfl, by omega, k16⟩
      · rw [decide_eq_false e] at hha
        repeat (first | with_reducible refine wF ?_ | with_reducible refine wpT ?_ | with_reducible refine wbd (by assumption) ?_ | (with_reducible refine wneqBB ?_) | with_reducible refine wadd1 (by omega) ?_ | dsimp only)
        exact next _ _ (Nat.lt_succ_self m) ⟨i + 1, h6, rfl, by omega, k16⟩
  | zero =>
    have hJI : ∀ t h2, Keep h3.length h3 h2 → ∃ h', CL g lf n fn_impl_Joins [.int .i64 (R : Int), .int .i64 (C : Int), q, .int .i64 t] h2 = some (.bool (joinsL (R : Int) (C : Int) xs t), h') ∧ Keep h2.length h2 h' := fun t h2 k2 => hJ n (by omega) (R : Int) (C : Int) t (htF3 _ k2) (hq3 _ k2) (by omega) (by omega)
    have hWI : ∀ h2, Keep h3.length h3 h2 → ∃ h', CL g lf n fn_impl_ReverseWinner [.int .i64 (R : Int), .int .i64 (C : Int), q, .int .i64 (T : Int)] h2 = some (.int .i64 (revL (R : Int) (C : Int) xs (T : Int)), h') ∧ Keep h2.length h2 h' := fun h2 k2 => hW n (by omega) (R : Int) (C : Int) (T : Int) (htF3 _ k2) (hq3 _ k2) (by omega) (by omega)
    have hJ1 := hJI (T : Int)
    have hJ2 := hJI (3 - (T : Int))
    have hasc : ∀ h2, Keep h3.length h3 h2 → CL g lf n fn_laws_ascend [q2] h2 = some (.bool true, h2) := fun h2 k2 => ascend_calls g lf n (by omega) (f2 _ k2) (sorted_get (safe_sorted _ _ _ _)) (by omega) (by omega)
    have hlen2 := o2'.int.len'
    obtain ⟨V, hWv, hW2⟩ := revL_cases hb hT
    rw [hWv] at hWI
    by_cases hdone : joinsL (R : Int) (C : Int) xs (T : Int) = true ∨ joinsL (R : Int) (C : Int) xs (3 - (T : Int)) = true
    · have hd12 : joinsL (R : Int) (C : Int) xs 1 = true ∨ joinsL (R : Int) (C : Int) xs 2 = true := by
        rcases hT with rfl | rfl
        · exact hdone
        · exact hdone.symm
      have hlen0 := empty (safe_done hd12)
      clear hlen2
      cases j1 : joinsL (R : Int) (C : Int) xs (T : Int) with
      | true =>
        rw [j1] at hJ1
        repeat (first | with_reducible refine wF ?_ | with_reducible refine wg1 rfl ?_ | with_reducible refine wg0 rfl ?_ | with_reducible refine wpT ?_ | with_reducible refine wpF ?_ | with_reducible refine wnT ?_ | with_reducible refine wpv ?_ | with_reducible refine wsm ?_ | with_reducible refine wrB ?_ | with_reducible refine wbd (by assumption) ?_ | (with_reducible refine wcv (hJ1 _ (by assumption)) (by assumption) hb3 fun _ _ => ?_) | (with_reducible refine wbd (hasc _ (by assumption)) ?_) | with_reducible refine wlssF (by omega) ?_ | with_reducible refine weqlT (by omega) ?_ | rw [kLoop_exit] | rw [laws_FnSafeCells.after0_se0_3_4_5_6_7_8_9_56] | dsimp only | simp only [env_C, env_Y, env_g, env_lf, env_pick, env_alloc, env_box, env_build, env_buildSlice, env_load, env_store, env_ptr, env_bin, env_un, env_conv, env_make, env_slice, env_fieldAddr, env_field, env_indexAddr, env_index, env_extract, env_len, env_append, env_max, env_min, env_makeMap, env_lookup, env_update, env_clos])
        exact W.ret rfl
      | false =>
        have j2 : joinsL (R : Int) (C : Int) xs (3 - (T : Int)) = true := hdone.resolve_left (by rw [j1]; decide)
        rw [j1] at hJ1
        rw [j2] at hJ2
        repeat (first | with_reducible refine wF ?_ | with_reducible refine wg1 rfl ?_ | with_reducible refine wg0 rfl ?_ | with_reducible refine wpT ?_ | with_reducible refine wpF ?_ | with_reducible refine wnT ?_ | with_reducible refine wpv ?_ | with_reducible refine wsm ?_ | with_reducible refine wrB ?_ | with_reducible refine wbd (by assumption) ?_ | (with_reducible refine wcv (hJ1 _ (by assumption)) (by assumption) hb3 fun _ _ => ?_) | (with_reducible refine wcv (hJ2 _ (by assumption)) (by assumption) hb3 fun _ _ => ?_) | (with_reducible refine wbd (hasc _ (by assumption)) ?_) | with_reducible refine wlssF (by omega) ?_ | with_reducible refine weqlT (by omega) ?_ | rw [kLoop_exit] | rw [laws_FnSafeCells.after0_se0_3_4_5_6_7_8_9_56] | dsimp only | simp only [env_C, env_Y, env_g, env_lf, env_pick, env_alloc, env_box, env_build, env_buildSlice, env_load, env_store, env_ptr, env_bin, env_un, env_conv, env_make, env_slice, env_fieldAddr, env_field, env_indexAddr, env_index, env_extract, env_len, env_append, env_max, env_min, env_makeMap, env_lookup, env_update, env_clos])
        exact W.ret rfl
    · have j1 : joinsL (R : Int) (C : Int) xs (T : Int) = false := by simpa using fun h => hdone (.inl h)
      have j2 : joinsL (R : Int) (C : Int) xs (3 - (T : Int)) = false := by simpa using fun h => hdone (.inr h)
      have j12 : joinsL (R : Int) (C : Int) xs 1 = false ∧ joinsL (R : Int) (C : Int) xs 2 = false := by
        rcases hT with rfl | rfl
        · exact ⟨j1, j2⟩
        · exact ⟨j2, j1⟩
      rw [j1] at hJ1
      rw [j2] at hJ2
      have hsome := safe_some hb hS hT j12.1 j12.2
      rw [hWv] at hsome
      by_cases hWT : V = T
      · have hpos0 := hsome.2 (by rw [hWT])
        repeat (first | with_reducible refine wF ?_ | with_reducible refine wg1 rfl ?_ | with_reducible refine wg0 rfl ?_ | with_reducible refine wpT ?_ | with_reducible refine wpF ?_ | with_reducible refine wnF ?_ | with_reducible refine wpv ?_ | with_reducible refine wsm ?_ | with_reducible refine wrB ?_ | with_reducible refine wbd (by assumption) ?_ | (with_reducible refine weqlBB ?_) | (with_reducible refine wcv (hJ1 _ (by assumption)) (by assumption) hb3 fun _ _ => ?_) | (with_reducible refine wcv (hJ2 _ (by assumption)) (by assumption) hb3 fun _ _ => ?_) | (with_reducible refine wcv (hWI _ (by assumption)) (by assumption) hb3 fun _ _ => ?_) | (with_reducible refine wbd (hasc _ (by assumption)) ?_) | with_reducible refine wlssF (by omega) ?_ | with_reducible refine wgtrT (by omega) ?_ | with_reducible refine weqlT (by omega) ?_ | rw [kLoop_exit] | rw [laws_FnSafeCells.after0_se0_3_4_5_6_7_8_9_56] | dsimp only | simp only [env_C, env_Y, env_g, env_lf, env_pick, env_alloc, env_box, env_build, env_buildSlice, env_load, env_store, env_ptr, env_bin, env_un, env_conv, env_make, env_slice, env_fieldAddr, env_field, env_indexAddr, env_index, env_extract, env_len, env_append, env_max, env_min, env_makeMap, env_lookup, env_update, env_clos])
        exact W.ret rfl
      · have hz : ¬ 0 < (safeL (R : Int) (C : Int) xs (T : Int)).length := fun hh => hWT (by have := hsome.1 hh; omega)
        repeat (first | with_reducible refine wF ?_ | with_reducible refine wg1 rfl ?_ | with_reducible refine wg0 rfl ?_ | with_reducible refine wpT ?_ | with_reducible refine wpF ?_ | with_reducible refine wnF ?_ | with_reducible refine wpv ?_ | with_reducible refine wsm ?_ | with_reducible refine wrB ?_ | with_reducible refine wbd (by assumption) ?_ | (with_reducible refine weqlBB ?_) | (with_reducible refine wcv (hJ1 _ (by assumption)) (by assumption) hb3 fun _ _ => ?_) | (with_reducible refine wcv (hJ2 _ (by assumption)) (by assumption) hb3 fun _ _ => ?_) | (with_reducible refine wcv (hWI _ (by assumption)) (by assumption) hb3 fun _ _ => ?_) | (with_reducible refine wbd (hasc _ (by assumption)) ?_) | with_reducible refine wlssF (by omega) ?_ | with_reducible refine wgtrF (by omega) ?_ | with_reducible refine weqlF (by omega) ?_ | rw [kLoop_exit] | rw [laws_FnSafeCells.after0_se0_3_4_5_6_7_8_9_56] | dsimp only | simp only [env_C, env_Y, env_g, env_lf, env_pick, env_alloc, env_box, env_build, env_buildSlice, env_load, env_store, env_ptr, env_bin, env_un, env_conv, env_make, env_slice, env_fieldAddr, env_field, env_indexAddr, env_index, env_extract, env_len, env_append, env_max, env_min, env_makeMap, env_lookup, env_update, env_clos])
        exact W.ret rfl


theorem fnSquareReverse_calls (hSq : SquareOk g lf) {p : PV} {ys : List Int} {h : PHeap} (N : Nat) (hN : 45 ≤ N) (ha : Arg h p ys) (hlf : 1000 < lf) (ht : TabOk g h) :
    ∃ h', CL g lf N fn_laws_FnSquareReverse [p] h = some (.bool true, h') := by
  obtain ⟨n, rfl⟩ : ∃ n, N = n + 1 := ⟨N - 1, by omega⟩
  apply W.yes
  rw [laws_FnSquareReverse.call_eq]
  unfold laws_FnSquareReverse.main
  simp only [env_C, env_pick, env_bin, env_len]
  have hlenp : lenP Tryd.prog 22 p = some (.int .i64 ys.length) := (ha.1 h (Keep.refl _ _)).len tyB
  by_cases hbig : (1048576 : Int) < (ys.length : Int)
  · repeat (first | with_reducible refine wT ?_ | with_reducible refine wrB ?_ | with_reducible refine wbd (by assumption) ?_ | with_reducible refine wgtrT (by omega) ?_)
    exact W.ret rfl
  obtain ⟨s, h1, e1, k1⟩ := drawSquare_W g lf n (by omega) ha
  obtain ⟨h2, e2, k2⟩ := hSq n (by omega) s (ht.keep k1)
  obtain ⟨h3, e3, k3⟩ := specSquare_calls g lf n (by omega) s h2 hlf
  have hal : ∀ h2, CL g lf n fn_laws_alive [] h2 = some (.bool true, h2) := fun h2 => alive_calls g lf n (by omega) h2
  by_cases hs : s = 1 ∨ s = 2 ∨ s = 3
  · rcases hs with rfl | rfl | rfl
    · have hv : squareL 1 = 2 := rfl
      rw [hv] at e2 e3
      have hr : binP Tryd.prog .rem 3 (.int .i64 1) (.int .i64 2) = some (.int .i64 1) := by kernel_rfl
      repeat (first | with_reducible refine wF ?_ | with_reducible refine wg1 rfl ?_ | with_reducible refine wpT ?_ | with_reducible refine wpF ?_ | with_reducible refine wpv ?_ | with_reducible refine wsm ?_ | with_reducible refine wrB ?_ | with_reducible refine wbd (by assumption) ?_ | (with_reducible refine weqlBB ?_) | with_reducible refine wlssF (by omega) ?_ | with_reducible refine wgtrF (by omega) ?_ | with_reducible refine weqlF (by omega) ?_ | with_reducible refine wneqT (by omega) ?_ | with_reducible refine wneqF (by omega) ?_ | dsimp only)
      exact W.ret rfl
    · have hv : squareL 2 = 1 := rfl
      rw [hv] at e2 e3
      have hr : binP Tryd.prog .rem 3 (.int .i64 2) (.int .i64 2) = some (.int .i64 0) := by kernel_rfl
      repeat (first | with_reducible refine wF ?_ | with_reducible refine wg1 rfl ?_ | with_reducible refine wpT ?_ | with_reducible refine wpF ?_ | with_reducible refine wpv ?_ | with_reducible refine wsm ?_ | with_reducible refine wrB ?_ | with_reducible refine wbd (by assumption) ?_ | (with_reducible refine weqlBB ?_) | with_reducible refine wlssF (by omega) ?_ | with_reducible refine wgtrF (by omega) ?_ | with_reducible refine weqlT (by omega) ?_ | with_reducible refine wneqT (by omega) ?_ | with_reducible refine wneqF (by omega) ?_ | dsimp only)
      exact W.ret rfl
    · have hv : squareL 3 = 2 := rfl
      rw [hv] at e2 e3
      have hr : binP Tryd.prog .rem 3 (.int .i64 3) (.int .i64 2) = some (.int .i64 1) := by kernel_rfl
      repeat (first | with_reducible refine wF ?_ | with_reducible refine wg1 rfl ?_ | with_reducible refine wpT ?_ | with_reducible refine wpF ?_ | with_reducible refine wpv ?_ | with_reducible refine wsm ?_ | with_reducible refine wrB ?_ | with_reducible refine wbd (by assumption) ?_ | (with_reducible refine weqlBB ?_) | with_reducible refine wlssF (by omega) ?_ | with_reducible refine wgtrF (by omega) ?_ | with_reducible refine weqlF (by omega) ?_ | with_reducible refine wneqT (by omega) ?_ | with_reducible refine wneqF (by omega) ?_ | dsimp only)
      exact W.ret rfl
  · have hv : squareL s = 0 := by
      unfold squareL
      rw [if_neg (by omega), if_neg (by omega), if_neg (by omega)]
    rw [hv] at e2 e3
    by_cases hs1 : s < 1
    · repeat (first | with_reducible refine wT ?_ | with_reducible refine wF ?_ | with_reducible refine wg1 rfl ?_ | with_reducible refine wg0 rfl ?_ | with_reducible refine wpT ?_ | with_reducible refine wsm ?_ | with_reducible refine wrB ?_ | with_reducible refine wbd (by assumption) ?_ | (with_reducible refine wbd (hal _) ?_) | with_reducible refine wlssT (by omega) ?_ | with_reducible refine wgtrF (by omega) ?_ | with_reducible refine weqlT (by omega) ?_ | with_reducible refine wneqF (by omega) ?_ | dsimp only)
      exact W.ret rfl
    · repeat (first | with_reducible refine wT ?_ | with_reducible refine wF ?_ | with_reducible refine wg1 rfl ?_ | with_reducible refine wpT ?_ | with_reducible refine wpF ?_ | with_reducible refine wpv ?_ | with_reducible refine wsm ?_ | with_reducible refine wrB ?_ | with_reducible refine wbd (by assumption) ?_ | (with_reducible refine wbd (hal _) ?_) | with_reducible refine wlssF (by omega) ?_ | with_reducible refine wgtrT (by omega) ?_ | with_reducible refine wgtrF (by omega) ?_ | with_reducible refine weqlT (by omega) ?_ | with_reducible refine wneqF (by omega) ?_ | dsimp only)
      exact W.ret rfl

theorem fnReverseOne_calls (hRv : ReverseOk g lf) (hW : WinnerOk g lf) (hJ : JoinsOk g lf) {p : PV} {ys : List Int} {h : PHeap} (N : Nat) (hN : 45 ≤ N) (ha : Arg h p ys) (hlf : 1000 < lf) (ht : TabOk g h) :
    ∃ h', CL g lf N fn_laws_FnReverseOne [p] h = some (.bool true, h') := by
  obtain ⟨n, rfl⟩ : ∃ n, N = n + 1 := ⟨N - 1, by omega⟩
  apply W.yes
  rw [laws_FnReverseOne.call_eq]
  unfold laws_FnReverseOne.main
  simp only [env_C, env_lf, env_pick, env_buildSlice, env_bin, env_un, env_extract, env_len, env_append]
  have hlenp : lenP Tryd.prog 22 p = some (.int .i64 ys.length) := (ha.1 h (Keep.refl _ _)).len tyB
  by_cases hbig : (1048576 : Int) < (ys.length : Int)
  · repeat (first | with_reducible refine wT ?_ | with_reducible refine wrB ?_ | with_reducible refine wbd (by assumption) ?_ | with_reducible refine wgtrT (by omega) ?_)
    exact W.ret rfl
  obtain ⟨r, c, q, xs, pl, h1, e1, k1, hq0, hl, hp1, hp2⟩ := drawReverseWinner_W g lf n (by omega) ha (by omega)
  have htF := tabF ht k1
  have hq : Fix h1.length h1 q xs := hq0.fix
  have hb1 : h1.length ≤ h1.length := Nat.le_refl _
  have k0 : Keep h1.length h1 h1 := Keep.refl _ _
  have hpos : ∀ h2, Keep h1.length h1 h2 → CL g lf n fn_spec_PositionOk [.int .i64 r, .int .i64 c, q] h2 = some (.bool (posB r c xs), h2) := fun h2 k2 => specPositionOk_N g lf n (by omega) r c (hq h2 k2) (by omega) (by omega)
  have hal : ∀ h2, CL g lf n fn_laws_alive [] h2 = some (.bool true, h2) := fun h2 => alive_calls g lf n (by omega) h2
  have hI : ∀ h2, Keep h1.length h1 h2 → ∃ h', CL g lf n fn_impl_ReverseWinner [.int .i64 r, .int .i64 c, q, .int .i64 pl] h2 = some (.int .i64 (revL r c xs pl), h') ∧ Keep h2.length h2 h' := fun h2 k2 => hRv n (by omega) r c pl (htF _ k2) (hq _ k2) (by omega) (by omega)
  cases hb : posB r c xs with
  | false =>
    rw [revL_none (.inl hb)] at hI
    rw [hb] at hpos
    repeat (first | with_reducible refine wT ?_ | with_reducible refine wF ?_ | with_reducible refine wg1 rfl ?_ | with_reducible refine wg0 rfl ?_ | with_reducible refine wpT ?_ | with_reducible refine wnF ?_ | with_reducible refine wsm ?_ | with_reducible refine wrB ?_ | with_reducible refine wx0 ?_ | with_reducible refine wx1 ?_ | with_reducible refine wx2 ?_ | with_reducible refine wx3 ?_ | with_reducible refine wbd (by assumption) ?_ | (with_reducible refine wbd (hpos _ (by assumption)) ?_) | (with_reducible refine wbd (hal _) ?_) | (with_reducible refine wcv (hI _ (by assumption)) (by assumption) hb1 fun _ _ => ?_) | with_reducible refine wgtrF (by omega) ?_ | with_reducible refine weqlT (by omega) ?_ | dsimp only)
    exact W.ret rfl
  | true =>
  rw [hb] at hpos
  by_cases hpl : 2 < pl
  · rw [revL_none (.inr hpl)] at hI
    repeat (first | with_reducible refine wT ?_ | with_reducible refine wF ?_ | with_reducible refine wg1 rfl ?_ | with_reducible refine wpT ?_ | with_reducible refine wpF ?_ | with_reducible refine wnT ?_ | with_reducible refine wpv ?_ | with_reducible refine wsm ?_ | with_reducible refine wrB ?_ | with_reducible refine wx0 ?_ | with_reducible refine wx1 ?_ | with_reducible refine wx2 ?_ | with_reducible refine wx3 ?_ | with_reducible refine wbd (by assumption) ?_ | (with_reducible refine wbd (hpos _ (by assumption)) ?_) | (with_reducible refine wbd (hal _) ?_) | (with_reducible refine wcv (hI _ (by assumption)) (by assumption) hb1 fun _ _ => ?_) | with_reducible refine wgtrT (by omega) ?_ | with_reducible refine wgtrF (by omega) ?_ | with_reducible refine weqlT (by omega) ?_ | dsimp only)
    exact W.ret rfl
  clear hI
  obtain ⟨R, C, hS⟩ := sides_of hb
  obtain ⟨T, rfl⟩ := Int.eq_ofNat_of_zero_le (show 0 ≤ pl by omega)
  have hT : T = 1 ∨ T = 2 := by omega
  obtain ⟨rfl, rfl, s1, s2, s3, s4, s9, slen, sall⟩ := id hS
  have hx1 : 0 < xs.length := by rw [slen]; exact Nat.mul_pos s1 s3
  obtain ⟨v2, q2, h2, e2, e2', o2, k2⟩ := copy_all (hq _ k0) hx1 (by omega)
  obtain ⟨q3, h3, e3, o3, k3⟩ := cellsOf_calls g lf n (by omega) (R : Int) (C : Int) 0 o2.int (by omega) (by omega)
  have hle := cellsL_length (R : Int) (C : Int) xs 0
  obtain ⟨L, hL⟩ : ∃ L, L = cellsL (R : Int) (C : Int) xs 0 := ⟨_, rfl⟩
  rw [← hL] at o3 hle
  have x3 : OwnB h1.length h2.length h3 q2 xs := o2.b.keep k3
  have f3 : OwnB h2.length h3.length h3 q3 L := o3.b
  have hlen3 := o3.int.len'
  repeat (first | with_reducible refine wF ?_ | with_reducible refine wg1 rfl ?_ | with_reducible refine wpF ?_ | with_reducible refine wnT ?_ | with_reducible refine wpv ?_ | with_reducible refine wsm ?_ | with_reducible refine wx0 ?_ | with_reducible refine wx1 ?_ | with_reducible refine wx2 ?_ | with_reducible refine wx3 ?_ | with_reducible refine wbd (by assumption) ?_ | (with_reducible refine wbd (hpos _ (by assumption)) ?_) | with_reducible refine wgtrF (by omega) ?_ | dsimp only)
  refine loopW (fun m s => ∃ (i : Nat) (zs : List Int) (h4 : PHeap), s = laws_FnReverseOne.st0 (.int .i64 (R : Int)) (.int .i64 (C : Int)) (.int .i64 (T : Int)) q2 q3 (.int .i64 (i : Int)) h4 ∧ i + m = L.length + 1 ∧ 1 ≤ i ∧ zs.length = xs.length ∧ Filled1 (R : Int) (C : Int) L i zs ∧ OwnB h1.length h2.length h4 q2 zs ∧ OwnB h2.length h3.length h4 q3 L ∧ Keep h1.length h1 h4) ?_ lf L.length _ (by omega) ⟨1, xs, h3, rfl, by omega, Nat.le_refl _, rfl, hL ▸ Filled1.start hb, x3, f3, k2.trans (k3.mono k2.1)⟩
  rintro n1 m s ⟨i, zs, h4, rfl, him, hi1, hz, hfill, x4, f4, k4⟩ next
  have hlen4 := f4.int.len'
  rw [laws_FnReverseOne.body0_eq]
  unfold laws_FnReverseOne.body0
  simp only [env_load, env_store, env_bin, env_indexAddr, env_len]
  by_cases hi : i < L.length
  · obtain ⟨J, hJ1, hJ0⟩ : ∃ J : Nat, L[i] = (J : Int) ∧ J < zs.length := by
      have hm : L[i]? = some L[i] := List.getElem?_eq_getElem hi
      have hx : (L[i]) ∈ cellsFrom 0 0 xs := by
        have : L = cellsFrom 0 0 xs := by rw [hL]; unfold cellsL; rw [hb]; rfl
        rw [← this]; exact List.getElem_mem hi
      obtain ⟨k, hk, hk2⟩ := cellsFrom_mem 0 xs 0 _ hx
      refine ⟨k, by rw [hk, Nat.zero_add], ?_⟩
      have := (List.getElem?_eq_some_iff.1 hk2).1; omega
    obtain ⟨a, ea, la⟩ := f4.int.at' hi
    rw [hJ1] at la
    have hP : 1 + i % 2 = 1 ∨ 1 + i % 2 = 2 := by omega
    have hJ2 : L[i]? = some (J : Int) := by rw [List.getElem?_eq_getElem hi, hJ1]
    have hset := (hL ▸ hfill : Filled1 (R : Int) (C : Int) (cellsL (R : Int) (C : Int) xs 0) i zs).step hi1 (hL ▸ hJ2) hP
    repeat (first | with_reducible refine wT ?_ | with_reducible refine wbd (by assumption) ?_ | with_reducible refine wrem2 ?_ | with_reducible refine wlssT (by omega) ?_ | with_reducible refine wadd (by omega) ?_)
    refine wstB x4 hJ0 fun h5 x5 on5 a5 => ?_
    repeat (first | with_reducible refine wadd1 (by omega) ?_)
    refine next _ _ (show m - 1 < m by omega) ⟨i + 1, _, h5, rfl, by omega, by omega, by rw [List.length_set]; exact hz, hL ▸ hset, x5, f4.only on5 (.inr (Nat.le_refl _)), k4.trans on5.keep⟩
  · have k04 : Keep h4.length h4 h4 := Keep.refl _ _
    have hb4 : h4.length ≤ h4.length := Nat.le_refl _
    by_cases hL0 : L.length = 0
    · repeat (first | with_reducible refine wT ?_ | with_reducible refine wF ?_ | with_reducible refine wg0 rfl ?_ | with_reducible refine wpT ?_ | with_reducible refine wsm ?_ | with_reducible refine wrB ?_ | with_reducible refine wbd (by assumption) ?_ | (with_reducible refine wbd (hal _) ?_) | with_reducible refine wlssF (by omega) ?_ | with_reducible refine weqlT (by omega) ?_ | rw [kLoop_exit] | rw [laws_FnReverseOne.after0_se0_3_4_6_7_8_9_48] | dsimp only | simp only [env_C, env_Y, env_g, env_lf, env_pick, env_alloc, env_box, env_build, env_buildSlice, env_load, env_store, env_ptr, env_bin, env_un, env_conv, env_make, env_slice, env_fieldAddr, env_field, env_indexAddr, env_index, env_extract, env_len, env_append, env_max, env_min, env_makeMap, env_lookup, env_update, env_clos])
      exact W.ret rfl
    obtain ⟨J, hJ1⟩ : ∃ J : Nat, L[0]? = some (J : Int) := by
      have hx : (L[0]'(by omega)) ∈ cellsFrom 0 0 xs := by
        have : L = cellsFrom 0 0 xs := by rw [hL]; unfold cellsL; rw [hb]; rfl
        rw [← this]; exact List.getElem_mem _
      obtain ⟨k, hk, _⟩ := cellsFrom_mem 0 xs 0 _ hx
      exact ⟨k, by rw [List.getElem?_eq_getElem (by omega), hk, Nat.zero_add]⟩
    have h0 : ∀ j : Nat, zs[j]? = some 0 ↔ j = J := fun j => by
      rw [hfill.2 j]
      constructor
      · rintro ⟨m, hm, hm2⟩
        have hml := (List.getElem?_eq_some_iff.1 hm2).1
        have : m = 0 := by omega
        subst this
        rw [hJ1] at hm2
        have := Option.some.inj hm2; omega
      · rintro rfl; exact ⟨0, .inl rfl, hJ1⟩
    have hbz := hfill.1
    have hz4 : Fix h4.length h4 q2 zs := x4.int.fix
    have hJI : ∀ w h2, Keep h4.length h4 h2 → ∃ h', CL g lf n fn_impl_Joins [.int .i64 (R : Int), .int .i64 (C : Int), q2, .int .i64 w] h2 = some (.bool (joinsL (R : Int) (C : Int) zs w), h') ∧ Keep h2.length h2 h' := fun w h2 k2 => hJ n (by omega) (R : Int) (C : Int) w (htF _ (k4.trans (k2.mono k4.1))) (hz4 _ k2) (by omega) (by omega)
    have hJ1' := hJI 1
    have hJ2' := hJI 2
    cases j1 : joinsL (R : Int) (C : Int) zs 1 with
    | true =>
      rw [j1] at hJ1'
      repeat (first | with_reducible refine wT ?_ | with_reducible refine wF ?_ | with_reducible refine wg1 rfl ?_ | with_reducible refine wg0 rfl ?_ | with_reducible refine wpT ?_ | with_reducible refine wpF ?_ | with_reducible refine wsm ?_ | with_reducible refine wrB ?_ | with_reducible refine wbd (by assumption) ?_ | (with_reducible refine wbd (hal _) ?_) | (with_reducible refine wcv (hJ1' _ (by assumption)) (by assumption) hb4 fun _ _ => ?_) | with_reducible refine wlssF (by omega) ?_ | with_reducible refine weqlF (by omega) ?_ | rw [kLoop_exit] | rw [laws_FnReverseOne.after0_se0_3_4_6_7_8_9_48] | dsimp only | simp only [env_C, env_Y, env_g, env_lf, env_pick, env_alloc, env_box, env_build, env_buildSlice, env_load, env_store, env_ptr, env_bin, env_un, env_conv, env_make, env_slice, env_fieldAddr, env_field, env_indexAddr, env_index, env_extract, env_len, env_append, env_max, env_min, env_makeMap, env_lookup, env_update, env_clos])
      exact W.ret rfl
    | false =>
    rw [j1] at hJ1'
    cases j2 : joinsL (R : Int) (C : Int) zs 2 with
    | true =>
      rw [j2] at hJ2'
      repeat (first | with_reducible refine wT ?_ | with_reducible refine wF ?_ | with_reducible refine wg1 rfl ?_ | with_reducible refine wpF ?_ | with_reducible refine wsm ?_ | with_reducible refine wrB ?_ | with_reducible refine wbd (by assumption) ?_ | (with_reducible refine wbd (hal _) ?_) | (with_reducible refine wcv (hJ1' _ (by assumption)) (by assumption) hb4 fun _ _ => ?_) | (with_reducible refine wcv (hJ2' _ (by assumption)) (by assumption) hb4 fun _ _ => ?_) | with_reducible refine wlssF (by omega) ?_ | with_reducible refine weqlF (by omega) ?_ | rw [kLoop_exit] | rw [laws_FnReverseOne.after0_se0_3_4_6_7_8_9_48] | dsimp only | simp only [env_C, env_Y, env_g, env_lf, env_pick, env_alloc, env_box, env_build, env_buildSlice, env_load, env_store, env_ptr, env_bin, env_un, env_conv, env_make, env_slice, env_fieldAddr, env_field, env_indexAddr, env_index, env_extract, env_len, env_append, env_max, env_min, env_makeMap, env_lookup, env_update, env_clos])
      exact W.ret rfl
    | false =>
    rw [j2] at hJ2'
    obtain ⟨f1, f2⟩ := last_ofR hbz hT h0 j1 j2
    have hRI : ∀ h2, Keep h4.length h4 h2 → ∃ h', CL g lf n fn_impl_ReverseWinner [.int .i64 (R : Int), .int .i64 (C : Int), q2, .int .i64 (T : Int)] h2 = some (.int .i64 (3 - (T : Int)), h') ∧ Keep h2.length h2 h' := fun h2 k2 => by
      have := hRv n (by omega) (R : Int) (C : Int) (T : Int) (htF _ (k4.trans (k2.mono k4.1))) (hz4 _ k2) (by omega) (by omega)
      rw [f1] at this; exact this
    have hWI : ∀ h2, Keep h4.length h4 h2 → ∃ h', CL g lf n fn_impl_WinnerOf [.int .i64 (R : Int), .int .i64 (C : Int), q2, .int .i64 (T : Int)] h2 = some (.int .i64 (T : Int), h') ∧ Keep h2.length h2 h' := fun h2 k2 => by
      have := hW n (by omega) (R : Int) (C : Int) (T : Int) (htF _ (k4.trans (k2.mono k4.1))) (hz4 _ k2) (by omega) (by omega)
      rw [f2] at this; exact this
    repeat (first | with_reducible refine wF ?_ | with_reducible refine wg1 rfl ?_ | with_reducible refine wpT ?_ | with_reducible refine wpF ?_ | with_reducible refine wpv ?_ | with_reducible refine wsm ?_ | with_reducible refine wrB ?_ | with_reducible refine wbd (by assumption) ?_ | (with_reducible refine wbd (hal _) ?_) | (with_reducible refine wcv (hJ1' _ (by assumption)) (by assumption) hb4 fun _ _ => ?_) | (with_reducible refine wcv (hJ2' _ (by assumption)) (by assumption) hb4 fun _ _ => ?_) | (with_reducible refine wcv (hRI _ (by assumption)) (by assumption) hb4 fun _ _ => ?_) | (with_reducible refine wcv (hWI _ (by assumption)) (by assumption) hb4 fun _ _ => ?_) | with_reducible refine wlssF (by omega) ?_ | with_reducible refine weqlT (by omega) ?_ | with_reducible refine weqlF (by omega) ?_ | with_reducible refine wsub (by omega) ?_ | rw [kLoop_exit] | rw [laws_FnReverseOne.after0_se0_3_4_6_7_8_9_48] | dsimp only | simp only [env_C, env_Y, env_g, env_lf, env_pick, env_alloc, env_box, env_build, env_buildSlice, env_load, env_store, env_ptr, env_bin, env_un, env_conv, env_make, env_slice, env_fieldAddr, env_field, env_indexAddr, env_index, env_extract, env_len, env_append, env_max, env_min, env_makeMap, env_lookup, env_update, env_clos])
    exact W.ret rfl

end Go.Proofs.YtocjdekcmhgjeaaDoor

/- The program's chapter 2: Joins, GapOf, GroupOf, Filled and GapCells compute what the model's do. -/
set_option maxRecDepth 20000
namespace Go.Proofs.YtocjdekcmhgjeaaDoor
open Go Go.Ip G

variable (g : Nat → PV) (lf n : Nat)

theorem joinsOk (hlf : 1000 < lf) : JoinsOk g lf := by
  intro N hN r c pl xs p h ht hp hl hf
  obtain ⟨n, rfl⟩ : ∃ n, N = n + 1 := ⟨N - 1, by omega⟩
  have ht' : Tab g h := ht.1
  have hpos := positionOk_N g lf n (by omega) r c hp (by omega) hf
  have hplay := playerOk_W g lf n (by omega) h pl
  have : W (CL g lf (n + 1) fn_impl_Joins [.int .i64 r, .int .i64 c, p, .int .i64 pl] h) fun v h' => v = .bool (joinsL r c xs pl) ∧ Keep h.length h h' := by
    rw [impl_Joins.call_eq]
    unfold impl_Joins.main
    simp only [env_C, env_pick, env_bin, env_un, env_extract]
    unfold joinsL
    cases hb : posB r c xs with
    | false =>
      rw [hb] at hpos
      repeat (first | with_reducible refine wT ?_ | with_reducible refine wg0 rfl ?_ | with_reducible refine wpT ?_ | with_reducible refine wnF ?_ | with_reducible refine wsm ?_ | with_reducible refine wrB ?_ | with_reducible refine wbd (by assumption) ?_ | dsimp only)
      exact W.ret ⟨rfl, Keep.refl _ _⟩
    | true =>
      rw [hb] at hpos
      cases hpl : playerB pl with
      | false =>
        rw [hpl] at hplay
        repeat (first | with_reducible refine wT ?_ | with_reducible refine wg1 rfl ?_ | with_reducible refine wpF ?_ | with_reducible refine wnT ?_ | with_reducible refine wnF ?_ | with_reducible refine wpv ?_ | with_reducible refine wsm ?_ | with_reducible refine wrB ?_ | with_reducible refine wbd (by assumption) ?_ | dsimp only)
        exact W.ret ⟨rfl, Keep.refl _ _⟩
      | true =>
        rw [hpl] at hplay
        obtain ⟨R, C, hS⟩ := sides_of hb
        obtain ⟨P, rfl, hP⟩ := player_of hpl
        have hB := board_of_sides hS
        obtain ⟨rfl, rfl, _, _, _, _, h9, hlen, _⟩ := id hS
        have hst := set_lt9 hS (P : Int)
        have e1 := sidesOf_W g lf hB hP n (by omega) hlf h
        have e2 := setOf_W g lf (P : Int) hp (by omega) n (by omega) hlf
        have s1 := sideN_lt (P := P) (last := false) hB
        have s2 := sideN_lt (P := P) (last := true) hB
        have a1 : sideN R C P false &&& setL xs (P : Int) < 2 ^ 9 := Nat.and_lt_two_pow _ hst
        obtain ⟨h1, e3, k1⟩ := grown_W g lf hB a1 hst n (by omega) hlf ht'
        rw [grown_in] at e3
        have hgl := grow_lt (M := masksN R C) (fr := sideN R C P false) hst
        have hgl2 : growN (masksN R C) (setL xs (P : Int)) (sideN R C P false) &&& sideN R C P true < 2 ^ 9 := Nat.and_lt_two_pow _ s2
        repeat (first | with_reducible refine wF ?_ | with_reducible refine wg1 rfl ?_ | with_reducible refine wpF ?_ | with_reducible refine wnT ?_ | with_reducible refine wpv ?_ | with_reducible refine wsm ?_ | with_reducible refine wx0 ?_ | with_reducible refine wx1 ?_ | with_reducible refine wbd (by assumption) ?_ | with_reducible refine wand (by omega) (by omega) ?_ | dsimp only)
        show W _ fun v h' => v = .bool (true && true && joinsN R C P (setL xs (P : Int))) ∧ Keep h.length h h'
        unfold joinsN
        refine wneq (fun e => ?_) (fun e => ?_)
        · repeat (first | with_reducible refine wrB ?_)
          refine W.ret ⟨?_, k1⟩
          rw [decide_eq_false (by omega)]; rfl
        · repeat (first | with_reducible refine wrB ?_)
          refine W.ret ⟨?_, k1⟩
          rw [decide_eq_true (by omega)]; rfl
  obtain ⟨_, h', e, rfl, k⟩ := this
  exact ⟨h', e, k⟩

end Go.Proofs.YtocjdekcmhgjeaaDoor

/- The least cell of a set, as the library finds it by its table of 64 bytes; and comparing a slice with nil, copying it. -/
set_option maxRecDepth 20000
namespace Go.Proofs.YtocjdekcmhgjeaaDoor
open Go Go.Ip G

/-- The least number in a set of nine; nine if there is none. -/
def lowN (x : Nat) : Nat := ((List.range 9).find? fun k => x.testBit k).getD 9
def lsB (x : Nat) : Bool := x.testBit (lowN x) && decide (lowN x < 9) && (List.range (lowN x)).all (fun j => !x.testBit j) && (x &&& (x - 1) == without x (lowN x))
theorem ls_all : ((List.range 512).all fun x => x == 0 || lsB x) = true := by kernel_rfl
theorem low_ok {x : Nat} (hx : x < 2 ^ 9) (h0 : x ≠ 0) : x.testBit (lowN x) = true ∧ lowN x < 9 ∧ (∀ j, j < lowN x → x.testBit j = false) ∧ x &&& (x - 1) = without x (lowN x) := by
  have h := List.all_eq_true.1 ls_all x (List.mem_range.2 hx)
  have h1 : lsB x = true := by
    rcases Bool.or_eq_true_iff.1 h with h | h
    · exact absurd (by simpa using h) h0
    · exact h
  unfold lsB at h1
  simp only [Bool.and_eq_true, decide_eq_true_eq, beq_iff_eq] at h1
  obtain ⟨⟨⟨a, b⟩, c⟩, d⟩ := h1
  exact ⟨a, b, fun j hj => by have := List.all_eq_true.1 c j (List.mem_range.2 hj); simpa using this, d⟩

/-- What the library computes, step by step. -/
def isU (o : Option PV) (a : Nat) : Bool := match o with | some (.int .u64 (.ofNat b)) => b == a | _ => false
theorem isU_eq {o : Option PV} {a : Nat} (h : isU o a = true) : o = some (.int .u64 (a : Int)) := by
  unfold isU at h
  split at h
  · have := beq_iff_eq.1 h; subst this; rfl
  · cases h
def tz5 (x : Nat) : Nat := ((1 <<< lowN x) * 285870213051353865) % 2 ^ 64
def tz6 (x : Nat) : Nat := tz5 x / 2 ^ 58
noncomputable def tzB (x : Nat) : Bool := isU (unP .neg (.int .u64 (x : Int))) (2 ^ 64 - x) && (isU (binP Tryd.prog .and 90 (.int .u64 (x : Int)) (.int .u64 ((2 ^ 64 - x : Nat) : Int))) (1 <<< lowN x) &&
  (isU (binP Tryd.prog .mul 90 (.int .u64 ((1 <<< lowN x : Nat) : Int)) (.int .u64 285870213051353865)) (tz5 x) && (isU (binP Tryd.prog .shr 90 (.int .u64 (tz5 x : Int)) (.int .u64 58)) (tz6 x) && tab64N[tz6 x]? == some (lowN x))))
theorem tz_all : ((List.range 512).all fun x => x == 0 || tzB x) = true := by kernel_rfl
theorem tz_one {x : Nat} (hx : x < 2 ^ 9) (h0 : x ≠ 0) : tzB x = true := by
  have h := List.all_eq_true.1 tz_all x (List.mem_range.2 hx)
  rcases Bool.or_eq_true_iff.1 h with h | h
  · exact absurd (beq_iff_eq.1 h) h0
  · exact h
theorem tz_steps {x : Nat} (hx : x < 2 ^ 9) (h0 : x ≠ 0) : ∃ v3 v4 v5, ∃ i : Nat, unP .neg (.int .u64 (x : Int)) = some v3 ∧ binP Tryd.prog .and 90 (.int .u64 (x : Int)) v3 = some v4 ∧ binP Tryd.prog .mul 90 v4 (.int .u64 285870213051353865) = some v5 ∧
    binP Tryd.prog .shr 90 v5 (.int .u64 58) = some (.int .u64 (i : Int)) ∧ tab64N[i]? = some (lowN x) := by
  have h1 := tz_one hx h0
  unfold tzB at h1
  obtain ⟨a, h1⟩ := Bool.and_eq_true_iff.1 h1
  obtain ⟨b, h1⟩ := Bool.and_eq_true_iff.1 h1
  obtain ⟨c, h1⟩ := Bool.and_eq_true_iff.1 h1
  obtain ⟨d, h1⟩ := Bool.and_eq_true_iff.1 h1
  exact ⟨_, _, _, _, isU_eq a, isU_eq b, isU_eq c, isU_eq d, beq_iff_eq.1 h1⟩

theorem tyTzU : Tryd.prog.underlying 95 = some (.array 64 5) := by kernel_rfl
theorem tyTz1 : sizeT Tryd.prog 5 = some 1 := by kernel_rfl
theorem tyTzA : isAggT Tryd.prog 5 = some false := by kernel_rfl
theorem tzConv (l : Nat) (hl : l < 9) : convP Tryd.prog 5 3 (.int .u8 (l : Int)) = some (.int .i64 (l : Int)) := by
  have : convP Tryd.prog 5 3 (.int .u8 (l : Int)) = some (.int .i64 (IntKind.i64.wrap (l : Int))) := by kernel_rfl
  rw [this, wr (by omega)]
theorem tzConv2 (x : Nat) (hx : x < 2 ^ 9) : convP Tryd.prog 3 85 (.int .i64 (x : Int)) = some (.int .u64 (x : Int)) := by
  have : convP Tryd.prog 3 85 (.int .i64 (x : Int)) = some (.int .u64 (IntKind.u64.wrap (x : Int))) := by kernel_rfl
  rw [this]
  have : IntKind.u64.wrap (x : Int) = (x : Int) := by unfold IntKind.wrap; simp [IntKind.bits, IntKind.signed]; omega
  rw [this]

variable (g : Nat → PV) (lf n : Nat)

/-- The library's table is known to lie somewhere. -/
def Big (g : Nat → PV) : Prop := ∃ id, g 2 = .ptr id 0

theorem tz64_W {x : Nat} (hx : x < 2 ^ 9) (h0 : x ≠ 0) (hb : Big g) {h : PHeap} (ht : Tab64 g h) (N : Nat) (hN : 1 ≤ N) : CL g lf N fn_bits_TrailingZeros64 [.int .u64 (x : Int)] h = some (.int .i64 (lowN x : Int), h) := by
  obtain ⟨n, rfl⟩ : ∃ n, N = n + 1 := ⟨N - 1, by omega⟩
  obtain ⟨id, hg⟩ := hb
  have ho := ht id hg
  obtain ⟨v3, v4, v5, i, e3, e4, e5, e6, hi⟩ := tz_steps hx h0
  have hi64 : i < 64 := (List.getElem?_eq_some_iff.1 hi).1
  have e7 : indexAddrP Tryd.prog 95 (.ptr id 0) (.int .u64 (i : Int)) = some (.ptr id i) := by simp [indexAddrP, tyTzU, tyTz1]; omega
  have e8 : loadP Tryd.prog 5 (.ptr id i) h = some (.int .u8 (lowN x : Int)) := by
    simp [loadP, tyTzA, cellsAt, ho, PObj.get, tab64Cells, hi]
  have e9 := tzConv (lowN x) (low_ok hx h0).2.1
  have : W (CL g lf (n + 1) fn_bits_TrailingZeros64 [.int .u64 (x : Int)] h) fun v h' => v = .int .i64 (lowN x : Int) ∧ h' = h := by
    rw [bits_TrailingZeros64.call_eq]
    unfold bits_TrailingZeros64.main
    simp only [env_g, env_load, env_bin, env_un, env_conv, env_indexAddr]
    refine weqlF (by omega) ?_
    rw [hg]
    repeat (first | with_reducible refine wF ?_ | with_reducible refine wrI ?_ | with_reducible refine wbd (by assumption) ?_)
    exact W.ret ⟨rfl, rfl⟩
  obtain ⟨_, _, e, rfl, rfl⟩ := this
  exact e

theorem leastIn_W {x : Nat} (hx : x < 2 ^ 9) (h0 : x ≠ 0) (hb : Big g) {h : PHeap} (ht : Tab64 g h) (N : Nat) (hN : 3 ≤ N) : CL g lf N fn_impl_leastIn [.int .i64 (x : Int)] h = some (.int .i64 (lowN x : Int), h) := by
  obtain ⟨n, rfl⟩ : ∃ n, N = n + 1 := ⟨N - 1, by omega⟩
  obtain ⟨n, rfl⟩ : ∃ m, n = m + 1 := ⟨n - 1, by omega⟩
  have e1 := tzConv2 x hx
  have e2 := tz64_W g lf hx h0 hb ht n (by omega)
  have e3 : CL g lf (n + 1) fn_bits_TrailingZeros [.int .u64 (x : Int)] h = some (.int .i64 (lowN x : Int), h) := by
    have : W (CL g lf (n + 1) fn_bits_TrailingZeros [.int .u64 (x : Int)] h) fun v h' => v = .int .i64 (lowN x : Int) ∧ h' = h := by
      rw [bits_TrailingZeros.call_eq]
      unfold bits_TrailingZeros.main
      simp only [env_C, env_conv]
      repeat (first | with_reducible refine wF ?_ | with_reducible refine wrI ?_ | with_reducible refine wbd (by assumption) ?_ | dsimp only)
      exact W.ret ⟨rfl, rfl⟩
    obtain ⟨_, _, e, rfl, rfl⟩ := this
    exact e
  have : W (CL g lf (n + 1 + 1) fn_impl_leastIn [.int .i64 (x : Int)] h) fun v h' => v = .int .i64 (lowN x : Int) ∧ h' = h := by
    rw [impl_leastIn.call_eq]
    unfold impl_leastIn.main
    simp only [env_C, env_conv]
    repeat (first | with_reducible refine wrI ?_ | with_reducible refine wbd (by assumption) ?_ | dsimp only)
    exact W.ret ⟨rfl, rfl⟩
  obtain ⟨_, _, e, rfl, rfl⟩ := this
  exact e

/-- What a set loses with its least cell. -/
theorem f_drop {x : Nat} (hx : x < 2 ^ 9) (h0 : x ≠ 0) : binP Tryd.prog .sub 3 (.int .i64 (x : Int)) (.int .i64 1) = some (.int .i64 ((x - 1 : Nat) : Int)) ∧ binP Tryd.prog .and 3 (.int .i64 (x : Int)) (.int .i64 ((x - 1 : Nat) : Int)) = some (.int .i64 (without x (lowN x) : Int)) := by
  refine ⟨by rw [bin_sub, wr (by omega), show (x : Int) - 1 = ((x - 1 : Nat) : Int) by omega], ?_⟩
  rw [f_and (by omega) (by omega), (low_ok hx h0).2.2.2]
theorem without_lt9 {x k : Nat} (hx : x < 2 ^ 9) : without x k < 2 ^ 9 := by rw [← minusN_one]; exact minusN_lt hx
theorem without_less {x : Nat} (hx : x < 2 ^ 9) (h0 : x ≠ 0) : without x (lowN x) < x := by
  have h := (low_ok hx h0).2.2.2
  rw [← h]
  have : x &&& (x - 1) ≤ x - 1 := Nat.and_le_right
  omega

/-! ### slices.Clone -/
theorem tySlB : isSliceT Tryd.prog 23 = true := by kernel_rfl
theorem wnilF {Q : PV → PHeap → Prop} {f : PV → Res} {i o l : Nat} (hf : W (f (.bool false)) Q) : W ((binP Tryd.prog .eql 23 (.sl i o l) .nilsl).bind f) Q := wbd (by simp [binP, tySlB]) hf

end Go.Proofs.YtocjdekcmhgjeaaDoor

/- The program's search: structs and a map on the interpreter's heap; the sets' joining; what stands after a move. -/
set_option maxRecDepth 20000
namespace Go.Proofs.YtocjdekcmhgjeaaDoor
open Go Go.Ip G

/-! ### objects by themselves, and what keeps all but one -/
def At (h : PHeap) (id : Nat) (l : List PV) : Prop := h[id]? = some (.own 1 l)
theorem At.lt {h : PHeap} {id : Nat} {l : List PV} (a : At h id l) : id < h.length := (List.getElem?_eq_some_iff.1 a).1
/-- All is as it was but the object m, and what is behind. -/
def KB (m : Nat) (h h' : PHeap) : Prop := h.length ≤ h'.length ∧ ∀ i, i < h.length → i ≠ m → h'[i]? = h[i]?
theorem KB.refl (m : Nat) (h : PHeap) : KB m h h := ⟨Nat.le_refl _, fun _ _ _ => rfl⟩
theorem KB.trans {m : Nat} {a b c : PHeap} (h : KB m a b) (k : KB m b c) : KB m a c := ⟨Nat.le_trans h.1 k.1, fun i hi hn => (k.2 i (Nat.lt_of_lt_of_le hi h.1) hn).trans (h.2 i hi hn)⟩
theorem Keep.kb {m : Nat} {a b : PHeap} (h : Keep a.length a b) : KB m a b := ⟨h.1, fun i hi _ => h.2 i hi⟩
theorem KB.keep {m n : Nat} {a b : PHeap} (h : KB m a b) (hm : n ≤ m) (hn : n ≤ a.length) : Keep n a b := ⟨h.1, fun i hi => h.2 i (Nat.lt_of_lt_of_le hi hn) (by omega)⟩
theorem At.keep {h h' : PHeap} {id : Nat} {l : List PV} (a : At h id l) (k : Keep h.length h h') : At h' id l := by unfold At; rw [k.2 id a.lt]; exact a
theorem At.kb {h h' : PHeap} {id m : Nat} {l : List PV} (a : At h id l) (k : KB m h h') (hn : id ≠ m) : At h' id l := by unfold At; rw [k.2 id a.lt hn]; exact a
def MapAt (h : PHeap) (m : Nat) (es : List (PV × PV)) : Prop := h[m]? = some (.mp es)
theorem MapAt.lt {h : PHeap} {m : Nat} {es : List (PV × PV)} (a : MapAt h m es) : m < h.length := (List.getElem?_eq_some_iff.1 a).1
theorem MapAt.keep {h h' : PHeap} {m : Nat} {es : List (PV × PV)} (a : MapAt h m es) (k : Keep h.length h h') : MapAt h' m es := by unfold MapAt; rw [k.2 m a.lt]; exact a
theorem MapAt.kb {h h' : PHeap} {id m : Nat} {es : List (PV × PV)} (a : MapAt h m es) (k : KB id h h') (hn : m ≠ id) : MapAt h' m es := by unfold MapAt; rw [k.2 m a.lt hn]; exact a
theorem At.ne {h : PHeap} {id m : Nat} {l : List PV} {es : List (PV × PV)} (a : At h id l) (b : MapAt h m es) : id ≠ m := by
  intro e; subst e; unfold At at a; unfold MapAt at b; rw [a] at b; cases b
theorem Fix.kb {b m : Nat} {h h' : PHeap} {p : PV} {xs : List Int} (s : Fix b h p xs) (k : KB m h h') (hb : b ≤ m) (hb2 : b ≤ h.length) : Fix b h' p xs := s.keep (k.keep hb hb2)

section
variable {Q : PV → PHeap → Prop} {h : PHeap}
/-- A new object. -/
theorem wnew {l : List PV} {x : Res} {f : PV × PHeap → Res} (hx : x = some (.ptr h.length 0, h ++ [.own 1 l])) (hf : ∀ h' id, At h' id l → Keep h.length h h' → h.length ≤ id → W (f (.ptr id 0, h')) Q) : W (x.bind f) Q := by
  rw [hx]
  exact hf _ _ (by unfold At; simp) (Keep.append _ _ _ (Nat.le_refl _)) (Nat.le_refl _)
/-- An object is written to. -/
theorem put_at {id : Nat} {l l' : List PV} (a : At h id l) : At (h.set id (.own 1 l')) id l' ∧ KB id h (h.set id (.own 1 l')) := by
  refine ⟨by unfold At; rw [List.getElem?_set_self a.lt], by simp, fun i _ hn => List.getElem?_set_ne (by omega)⟩
end

/-! ### types -/
theorem tyStA : isAggT Tryd.prog 54 = some true := by kernel_rfl
theorem tySt4 : sizeT Tryd.prog 54 = some 4 := by kernel_rfl
theorem tyStZ : zeroCellsT Tryd.prog 54 = some [.int .i64 0, .int .i64 0, .int .i64 0, .int .i64 0] := by kernel_rfl
theorem tyA3 : Tryd.prog.underlying 52 = some (.array 3 3) := by kernel_rfl
theorem tyA9 : Tryd.prog.underlying 77 = some (.array 9 3) := by kernel_rfl
theorem tyMp : Tryd.prog.underlying 47 = some (.map 54 3) := by kernel_rfl
theorem tyMpA : isAggT Tryd.prog 47 = some false := by kernel_rfl
theorem fSt0 (id : Nat) : fieldAddrP Tryd.prog 54 (.ptr id 0) 0 = some (.ptr id 0) := by kernel_rfl
theorem fSt1 (id : Nat) : fieldAddrP Tryd.prog 54 (.ptr id 0) 1 = some (.ptr id 3) := by kernel_rfl
theorem fs0 (id : Nat) : fieldAddrP Tryd.prog 79 (.ptr id 0) 0 = some (.ptr id 0) := by kernel_rfl
theorem fs1 (id : Nat) : fieldAddrP Tryd.prog 79 (.ptr id 0) 1 = some (.ptr id 9) := by kernel_rfl
theorem fs2 (id : Nat) : fieldAddrP Tryd.prog 79 (.ptr id 0) 2 = some (.ptr id 12) := by kernel_rfl
theorem fs3 (id : Nat) : fieldAddrP Tryd.prog 79 (.ptr id 0) 3 = some (.ptr id 15) := by kernel_rfl
theorem ia3 (id o i : Nat) (hi : i < 3) : indexAddrP Tryd.prog 52 (.ptr id o) (.int .i64 (i : Int)) = some (.ptr id (o + i)) := by simp [indexAddrP, tyA3, tySize]; omega
theorem ia9 (id o i : Nat) (hi : i < 9) : indexAddrP Tryd.prog 77 (.ptr id o) (.int .i64 (i : Int)) = some (.ptr id (o + i)) := by simp [indexAddrP, tyA9, tySize]; omega
theorem ld1 {h : PHeap} {id i : Nat} {l : List PV} {v : PV} (a : At h id l) (hv : l[i]? = some v) : loadP Tryd.prog 3 (.ptr id i) h = some v := by
  simp [loadP, tyAgg, cellsAt, show h[id]? = some (.own 1 l) from a, PObj.get, hv]
theorem ldM {h : PHeap} {id i : Nat} {l : List PV} {v : PV} (a : At h id l) (hv : l[i]? = some v) : loadP Tryd.prog 47 (.ptr id i) h = some v := by
  simp [loadP, tyMpA, cellsAt, show h[id]? = some (.own 1 l) from a, PObj.get, hv]
theorem st1 {h : PHeap} {id i : Nat} {l : List PV} {x : Int} (a : At h id l) (hi : i < l.length) : storeP Tryd.prog 3 (.ptr id i) (.int .i64 x) h = some (h.set id (.own 1 (l.set i (.int .i64 x)))) := by
  simp [storeP, show h[id]? = some (.own 1 l) from a, PV.cells, tySize, setCells]; omega

/-! ### what stands -/
def stC (f a b t : Nat) : List PV := [.int .i64 (f : Int), .int .i64 (a : Int), .int .i64 (b : Int), .int .i64 (t : Int)]
def stP (f a b t : Nat) : PV := .agg (stC f a b t)
theorem ldS {h : PHeap} {id f a b t : Nat} (o : At h id (stC f a b t)) : loadP Tryd.prog 54 (.ptr id 0) h = some (stP f a b t) := by
  simp [loadP, tyStA, tySt4, cellsAt, show h[id]? = some (.own 1 (stC f a b t)) from o, PObj.get, stC, stP]
theorem boxS (h : PHeap) (f a b t : Nat) : boxP (stP f a b t) h = some (.ptr h.length 0, h ++ [.own 1 (stC f a b t)]) := by simp [boxP, stP, stC, PV.cells, PV.oneCell]
theorem alS (h : PHeap) : allocP Tryd.prog 54 h = some (.ptr h.length 0, h ++ [.own 1 (stC 0 0 0 0)]) := by simp [allocP, tyStZ, stC]
theorem stS {h : PHeap} {id f a b t f' a' b' t' : Nat} (o : At h id (stC f' a' b' t')) : storeP Tryd.prog 54 (.ptr id 0) (stP f a b t) h = some (h.set id (.own 1 (stC f a b t))) := by
  simp [storeP, show h[id]? = some (.own 1 (stC f' a' b' t')) from o, stP, stC, PV.cells, PV.oneCell, tySt4, setCells]
theorem plainS {f a b t : Nat} : plainEq (stP f a b t) (stP f a b t) = true := plain_agg4

section
variable {Q : PV → PHeap → Prop} {h : PHeap} {id f a b t : Nat}
theorem wboxS {F : PV × PHeap → Res} (hf : ∀ h' id, At h' id (stC f a b t) → Keep h.length h h' → h.length ≤ id → W (F (.ptr id 0, h')) Q) : W ((boxP (stP f a b t) h).bind F) Q := wnew (boxS h f a b t) hf
theorem walS {F : PV × PHeap → Res} (hf : ∀ h' id, At h' id (stC 0 0 0 0) → Keep h.length h h' → h.length ≤ id → W (F (.ptr id 0, h')) Q) : W ((allocP Tryd.prog 54 h).bind F) Q := wnew (alS h) hf
theorem wstS {f' a' b' t' : Nat} (o : At h id (stC f' a' b' t')) {F : PHeap → Res} (hf : ∀ h', At h' id (stC f a b t) → KB id h h' → W (F h') Q) : W ((storeP Tryd.prog 54 (.ptr id 0) (stP f a b t) h).bind F) Q := by
  rw [stS o]; exact hf _ (put_at o).1 (put_at o).2
theorem wst1 {i : Nat} {l : List PV} {x : Int} (o : At h id l) (hi : i < l.length) {F : PHeap → Res} (hf : ∀ h', At h' id (l.set i (.int .i64 x)) → KB id h h' → W (F h') Q) : W ((storeP Tryd.prog 3 (.ptr id i) (.int .i64 x) h).bind F) Q := by
  rw [st1 o hi]; exact hf _ (put_at o).1 (put_at o).2
theorem wia3 {o i : Nat} (hi : i < 3) {F : PV → Res} (hf : W (F (.ptr id (o + i))) Q) : W ((indexAddrP Tryd.prog 52 (.ptr id o) (.int .i64 (i : Int))).bind F) Q := wbd (ia3 id o i hi) hf
theorem wia9 {o i : Nat} (hi : i < 9) {F : PV → Res} (hf : W (F (.ptr id (o + i))) Q) : W ((indexAddrP Tryd.prog 77 (.ptr id o) (.int .i64 (i : Int))).bind F) Q := wbd (ia9 id o i hi) hf
end

variable (g : Nat → PV) (lf n : Nat)

theorem exchanged_W (N : Nat) (hN : 1 ≤ N) (h : PHeap) {T : Nat} (hT : T = 1 ∨ T = 2) : CL g lf N fn_impl_exchanged [.int .i64 (T : Int)] h = some (.int .i64 ((3 - T : Nat) : Int), h) := by
  obtain ⟨n, rfl⟩ : ∃ n, N = n + 1 := ⟨N - 1, by omega⟩
  have : W (CL g lf (n + 1) fn_impl_exchanged [.int .i64 (T : Int)] h) fun v h' => v = .int .i64 ((3 - T : Nat) : Int) ∧ h' = h := by
    rw [impl_exchanged.call_eq]
    unfold impl_exchanged.main
    simp only [env_bin]
    rcases hT with rfl | rfl
    · repeat (first | with_reducible refine wT ?_ | with_reducible refine wrI ?_ | with_reducible refine weqlT (by omega) ?_)
      exact W.ret ⟨rfl, rfl⟩
    · repeat (first | with_reducible refine wT ?_ | with_reducible refine wF ?_ | with_reducible refine wrI ?_ | with_reducible refine weqlT (by omega) ?_ | with_reducible refine weqlF (by omega) ?_)
      exact W.ret ⟨rfl, rfl⟩
  obtain ⟨_, _, e, rfl, rfl⟩ := this
  exact e

theorem Keep.kbs {n m : Nat} {a b c : PHeap} (k : Keep n a b) (hn : n ≤ a.length) (k' : KB m b c) (hm : n ≤ m) : Keep n a c := k.trans (k'.keep hm (Nat.le_trans hn k.1))
theorem wia30 {Q : PV → PHeap → Prop} {id o : Nat} {F : PV → Res} (hf : W (F (.ptr id (o + 0))) Q) : W ((indexAddrP Tryd.prog 52 (.ptr id o) (.int .i64 0)).bind F) Q := wbd (ia3 id o 0 (by decide)) hf

theorem after_W {f a b t k : Nat} (hf : f < 2 ^ 9) (ha : a < 2 ^ 9) (hb : b < 2 ^ 9) (hk : k < 9) (ht : t = 1 ∨ t = 2) (N : Nat) (hN : 2 ≤ N) (h : PHeap) :
    W (CL g lf N fn_impl_standing_after [stP f a b t, .int .i64 (k : Int)] h) fun v h' => v = stP (without f k) (putA t k a) (putB t k b) (3 - t) ∧ Keep h.length h h' := by
  obtain ⟨n, rfl⟩ : ∃ n, N = n + 1 := ⟨N - 1, by omega⟩
  have hsl := shl_lt hk
  have e1 : ∀ h, CL g lf n fn_impl_exchanged [.int .i64 (t : Int)] h = some (.int .i64 ((3 - t : Nat) : Int), h) := fun h => exchanged_W g lf n (by omega) h ht
  rw [impl_standing_after.call_eq]
  unfold impl_standing_after.main
  simp only [env_C, env_alloc, env_box, env_load, env_store, env_bin, env_fieldAddr, env_indexAddr]
  refine wboxS fun h1 id o1 k1 l1 => ?_
  dsimp only
  refine walS fun h2 id2 o2 k2 l2 => ?_
  have o1' := o1.keep k2
  have hne : id2 ≠ id := by have := o1.lt; omega
  have kk2 : Keep h.length h h2 := k1.trans (k2.mono k1.1)
  repeat (first | (with_reducible refine wbd (fSt0 _) ?_) | (with_reducible refine wia30 ?_) | (with_reducible refine wbd (ld1 (by assumption) rfl) ?_) | with_reducible refine wshl (by omega) ?_ | with_reducible refine wandNot (by omega) (by omega) ?_ | dsimp only)
  refine wst1 o1' (show 0 + 0 < 4 by decide) fun h3 o3 k3 => ?_
  have o3 : At h3 id (stC (without f k) a b t) := o3
  have o23 := o2.kb k3 hne
  rcases ht with rfl | rfl
  · repeat (first | (with_reducible refine wbd (fSt0 _) ?_) | (with_reducible refine wbd (fSt1 _) ?_) | (with_reducible refine wia3 (by omega) ?_) | (with_reducible refine wbd (ld1 (by assumption) rfl) ?_) | with_reducible refine wshl (by omega) ?_ | with_reducible refine wor (by omega) (by omega) ?_)
    refine wst1 o3 (show 0 + 1 < 4 by decide) fun h4 o4 k4 => ?_
    have o4 : At h4 id (stC (without f k) (a ||| 1 <<< k) b 1) := o4
    have o24 := o23.kb k4 hne
    have e2 := e1 h4
    repeat (first | with_reducible refine wbd (by assumption) ?_ | (with_reducible refine wbd (fSt1 _) ?_) | (with_reducible refine wbd (ld1 (by assumption) rfl) ?_) | dsimp only)
    refine wst1 o4 (show 3 < 4 by decide) fun h5 o5 k5 => ?_
    have o5 : At h5 id (stC (without f k) (a ||| 1 <<< k) b (3 - 1)) := o5
    have o25 := o24.kb k5 hne
    repeat (first | (with_reducible refine wbd (ldS (by assumption)) ?_))
    refine wstS o25 fun h6 o6 k6 => ?_
    repeat (first | (with_reducible refine wbd (ldS (by assumption)) ?_))
    exact W.ret ⟨rfl, (((kk2.kbs (Nat.le_refl _) k3 l1).kbs (Nat.le_refl _) k4 l1).kbs (Nat.le_refl _) k5 l1).kbs (Nat.le_refl _) k6 (Nat.le_trans k1.1 l2)⟩
  · repeat (first | (with_reducible refine wbd (fSt0 _) ?_) | (with_reducible refine wbd (fSt1 _) ?_) | (with_reducible refine wia3 (by omega) ?_) | (with_reducible refine wbd (ld1 (by assumption) rfl) ?_) | with_reducible refine wshl (by omega) ?_ | with_reducible refine wor (by omega) (by omega) ?_)
    refine wst1 o3 (show 0 + 2 < 4 by decide) fun h4 o4 k4 => ?_
    have o4 : At h4 id (stC (without f k) a (b ||| 1 <<< k) 2) := o4
    have o24 := o23.kb k4 hne
    have e2 := e1 h4
    repeat (first | with_reducible refine wbd (by assumption) ?_ | (with_reducible refine wbd (fSt1 _) ?_) | (with_reducible refine wbd (ld1 (by assumption) rfl) ?_) | dsimp only)
    refine wst1 o4 (show 3 < 4 by decide) fun h5 o5 k5 => ?_
    have o5 : At h5 id (stC (without f k) a (b ||| 1 <<< k) (3 - 2)) := o5
    have o25 := o24.kb k5 hne
    repeat (first | (with_reducible refine wbd (ldS (by assumption)) ?_))
    refine wstS o25 fun h6 o6 k6 => ?_
    repeat (first | (with_reducible refine wbd (ldS (by assumption)) ?_))
    exact W.ret ⟨rfl, (((kk2.kbs (Nat.le_refl _) k3 l1).kbs (Nat.le_refl _) k4 l1).kbs (Nat.le_refl _) k5 l1).kbs (Nat.le_refl _) k6 (Nat.le_trans k1.1 l2)⟩

/-! ### a board's search -/
def nearV (R C j : Nat) : Nat := if j < R * C then wideN R C (1 <<< j) else 0
def srchV (R C : Nat) : List Nat := (List.range 9).map (nearV R C) ++ [0, sideN R C 1 false, sideN R C 2 false, 0, sideN R C 1 true, sideN R C 2 true]
def srchC (R C m : Nat) : List PV := (srchV R C).map (fun x : Nat => .int .i64 (x : Int)) ++ [.mapv m]
theorem srch_near (R C m k : Nat) (hk : k < 9) : (srchC R C m)[0 + k]? = some (.int .i64 (nearV R C k : Int)) := by
  rw [Nat.zero_add]
  unfold srchC srchV
  rw [List.map_append, List.append_assoc, List.getElem?_append_left (by simp; omega)]
  simp [hk]
theorem srch_first (R C m : Nat) {P : Nat} (hP : P = 1 ∨ P = 2) : (srchC R C m)[9 + P]? = some (.int .i64 (sideN R C P false : Int)) := by
  rcases hP with rfl | rfl <;> rfl
theorem srch_last (R C m : Nat) {P : Nat} (hP : P = 1 ∨ P = 2) : (srchC R C m)[12 + P]? = some (.int .i64 (sideN R C P true : Int)) := by
  rcases hP with rfl | rfl <;> rfl
theorem srch_map (R C m : Nat) : (srchC R C m)[15]? = some (.mapv m) := rfl

theorem nearV_lt {R C j : Nat} (hB : BoardOf R C) (hj : j < 9) : nearV R C j < 2 ^ 9 := by
  unfold nearV; split
  · exact wide_lt hB (shl_lt hj)
  · decide
theorem nearV_bit {R C k j : Nat} (hB : BoardOf R C) (hk : k < R * C) : (nearV R C k).testBit j = true ↔ j = k ∨ Adj (masksN R C) k j := by
  unfold nearV
  rw [if_pos hk, wide_bit hB, one_bit]
  constructor
  · rintro (h | ⟨i, h1, h2⟩)
    · exact .inl (by simpa using h)
    · rw [one_bit] at h1
      have : i = k := by simpa using h1
      exact .inr (this ▸ h2)
  · rintro (h | h)
    · exact .inl (by simpa using h)
    · exact .inr ⟨k, by rw [one_bit]; simp, h⟩
theorem bit_lt {x n j : Nat} (hx : x < 2 ^ n) (hj : x.testBit j = true) : j < n := by
  apply Classical.byContradiction
  intro hn
  rw [Nat.testBit_lt_two_pow (Nat.lt_of_lt_of_le hx (Nat.pow_le_pow_right (by decide) (by omega)))] at hj; cases hj

theorem joins_W {R C P own : Nat} (hB : BoardOf R C) (hP : P = 1 ∨ P = 2) (hown : own < 2 ^ (R * C)) (hbig : Big g) {h : PHeap} {s m : Nat} (hs : At h s (srchC R C m)) (ht : Tab64 g h) (N : Nat) (hN : 4 ≤ N) (hlf : 1000 < lf) :
    CL g lf N fn_impl_search_joins [.ptr s 0, .int .i64 (own : Int), .int .i64 (P : Int)] h = some (.bool (joinsN R C P own), h) := by
  obtain ⟨n, rfl⟩ : ∃ n, N = n + 1 := ⟨N - 1, by omega⟩
  have h9 := hB.2.2.2.2
  have hown9 : own < 2 ^ 9 := Nat.lt_of_lt_of_le hown (Nat.pow_le_pow_right (by decide) h9)
  have hP3 : P < 3 := by omega
  have s1 := sideN_lt (P := P) (last := false) hB
  have s2 := sideN_lt (P := P) (last := true) hB
  have hS9 : own &&& sideN R C P false < 2 ^ 9 := Nat.and_lt_two_pow _ s1
  have : W (CL g lf (n + 1) fn_impl_search_joins [.ptr s 0, .int .i64 (own : Int), .int .i64 (P : Int)] h) fun v h' => v = .bool (joinsN R C P own) ∧ h' = h := by
    rw [impl_search_joins.call_eq]
    unfold impl_search_joins.main
    simp only [env_lf, env_load, env_ptr, env_bin, env_fieldAddr, env_indexAddr]
    repeat (first | with_reducible refine wptr ?_ | (with_reducible refine wbd (fs1 _) ?_) | (with_reducible refine wia3 (by omega) ?_) | (with_reducible refine wbd (ld1 (by assumption) (srch_first _ _ _ hP)) ?_) | with_reducible refine wand (by omega) (by omega) ?_)
    obtain ⟨S, hS⟩ : ∃ S, S = own &&& sideN R C P false := ⟨_, rfl⟩
    rw [← hS] at hS9 ⊢
    have hSo : ∀ j, S.testBit j = true → own.testBit j = true := fun j hj => by
      rw [hS, Nat.testBit_and, Bool.and_eq_true] at hj; exact hj.1
    refine loopW (fun m' st => ∃ X w : Nat, st = impl_search_joins.st0 (.ptr s 0) (.int .i64 (own : Int)) (.int .i64 (P : Int)) (.int .i64 (X : Int)) (.int .i64 (w : Int)) h ∧ X < 2 ^ 9 ∧ (∀ j, w.testBit j = true → X.testBit j = true) ∧ (∀ j, X.testBit j = true → own.testBit j = true) ∧
      (∀ j, S.testBit j = true → X.testBit j = true) ∧ (∀ j, X.testBit j = true → Reach (masksN R C) (S ||| own) S j) ∧ (∀ k j, X.testBit k = true → w.testBit k = false → Adj (masksN R C) k j → own.testBit j = true → X.testBit j = true) ∧ m' = (512 - X) + (if w = 0 then 0 else 1)) ?_ lf (512 - S + (if S = 0 then 0 else 1)) _ (by split <;> omega)
      ⟨S, S, rfl, hS9, fun _ h => h, hSo, fun _ h => h, fun j hj => .start hj (by rw [Nat.testBit_or, hj]; rfl), fun k j h1 h2 _ _ => (by rw [h1] at h2; cases h2), rfl⟩
    rintro n1 m1 st ⟨X, w, rfl, hX, hw, hXo, hSX, hXr, hc, hm⟩ next
    rw [impl_search_joins.body0_eq]
    unfold impl_search_joins.body0
    simp only [env_lf, env_bin]
    by_cases e : w = 0
    · subst e
      repeat (first | with_reducible refine wF ?_ | with_reducible refine wptr ?_ | (with_reducible refine wbd (fs2 _) ?_) | (with_reducible refine wia3 (by omega) ?_) | (with_reducible refine wbd (ld1 (by assumption) (srch_last _ _ _ hP)) ?_) | with_reducible refine wand (by omega) (by omega) ?_ | with_reducible refine wneqF (by omega) ?_ | rw [kLoop_exit] | rw [impl_search_joins.after0_se0_0_1_2_7_8_21] | simp only [env_C, env_Y, env_g, env_lf, env_pick, env_alloc, env_box, env_build, env_buildSlice, env_load, env_store, env_ptr, env_bin, env_un, env_conv, env_make, env_slice, env_fieldAddr, env_field, env_indexAddr, env_index, env_extract, env_len, env_append, env_max, env_min, env_makeMap, env_lookup, env_update, env_clos])
      have hXg : X = growN (masksN R C) own (sideN R C P false) := by
        rw [grown_is hS9 hown9 hSX hXr fun k j h1 h2 h3 => hc k j h1 (Nat.zero_testBit _) h2 h3, hS, Nat.and_comm]
        exact grown_in
      unfold joinsN
      rw [← hXg]
      refine wneq (fun e => ?_) (fun e => ?_)
      · repeat (first | with_reducible refine wrB ?_)
        refine W.ret ⟨?_, rfl⟩
        rw [decide_eq_false (by omega)]; rfl
      · repeat (first | with_reducible refine wrB ?_)
        refine W.ret ⟨?_, rfl⟩
        rw [decide_eq_true (by omega)]; rfl
    · have hw9 : w < 2 ^ 9 := Nat.lt_of_le_of_lt (sub_le hw) hX
      have hwc : ∀ k, w.testBit k = true → k < R * C := fun k hk => bit_lt hown (hXo k (hw k hk))
      repeat (first | with_reducible refine wT ?_ | with_reducible refine wneqT (by omega) ?_)
      refine loopW (fun m' st => ∃ wd r : Nat, st = impl_search_joins.st1 (.ptr s 0) (.int .i64 (own : Int)) (.int .i64 (P : Int)) (.int .i64 (X : Int)) (.int .i64 (wd : Int)) (.int .i64 (r : Int)) h ∧ wd < 2 ^ 9 ∧ r < 2 ^ 9 ∧ (∀ j, r.testBit j = true → w.testBit j = true) ∧
        (∀ j, wd.testBit j = true ↔ ∃ k, w.testBit k = true ∧ r.testBit k = false ∧ (nearV R C k).testBit j = true) ∧ m' = r) ?_ lf w _ (by omega) ⟨0, w, rfl, by decide, hw9, fun _ h => h, fun j => ⟨fun h => (by rw [Nat.zero_testBit] at h; cases h), fun ⟨k, h1, h2, _⟩ => (by rw [h1] at h2; cases h2)⟩, rfl⟩
      rintro n2 m2 st ⟨wd, r, rfl, hwd, hr, hrw, hwb, hm2⟩ next2
      rw [impl_search_joins.body1_eq]
      unfold impl_search_joins.body1
      simp only [env_C, env_load, env_ptr, env_bin, env_fieldAddr, env_indexAddr]
      by_cases e2 : r = 0
      · subst e2
        have hal : wd &&& own < 2 ^ 9 := Nat.and_lt_two_pow _ hown9
        have hml : minusN (wd &&& own) X < 2 ^ 9 := minusN_lt hal
        repeat (first | with_reducible refine wF ?_ | with_reducible refine wand (by omega) (by omega) ?_ | with_reducible refine wor (by omega) (by omega) ?_ | with_reducible refine wandNot (by omega) (by omega) ?_ | with_reducible refine wneqF (by omega) ?_ | rw [kLoop_exit] | rw [impl_search_joins.after1_se2_0_1_2_7_9_10_24] | simp only [env_C, env_Y, env_g, env_lf, env_pick, env_alloc, env_box, env_build, env_buildSlice, env_load, env_store, env_ptr, env_bin, env_un, env_conv, env_make, env_slice, env_fieldAddr, env_field, env_indexAddr, env_index, env_extract, env_len, env_append, env_max, env_min, env_makeMap, env_lookup, env_update, env_clos])
        obtain ⟨w', hw'⟩ : ∃ w', w' = minusN (wd &&& own) X := ⟨_, rfl⟩
        have hb : ∀ j, w'.testBit j = true ↔ (w.testBit j = true ∨ ∃ k, w.testBit k = true ∧ Adj (masksN R C) k j) ∧ own.testBit j = true ∧ X.testBit j = false := fun j => by
          have hwj : wd.testBit j = true ↔ (w.testBit j = true ∨ ∃ k, w.testBit k = true ∧ Adj (masksN R C) k j) := by
            rw [hwb]
            constructor
            · rintro ⟨k, h1, _, h2⟩
              rcases (nearV_bit hB (hwc k h1)).1 h2 with rfl | h3
              · exact .inl h1
              · exact .inr ⟨k, h1, h3⟩
            · rintro (h1 | ⟨k, h1, h3⟩)
              · exact ⟨j, h1, Nat.zero_testBit _, (nearV_bit hB (hwc j h1)).2 (.inl rfl)⟩
              · exact ⟨k, h1, Nat.zero_testBit _, (nearV_bit hB (hwc k h1)).2 (.inr h3)⟩
          rw [← hwj, hw', minusN_bit, Nat.testBit_and]; cases wd.testBit j <;> cases own.testBit j <;> cases X.testBit j <;> simp
        rw [← hw'] at hml ⊢
        have hor : X ||| w' < 2 ^ 9 := Nat.or_lt_two_pow hX hml
        have hle : X ≤ X ||| w' := Nat.left_le_or
        have hne : w' ≠ 0 → X ≠ X ||| w' := fun hz he => by
          obtain ⟨j, hj⟩ := bit_of_ne hz
          have h1 := ((hb j).1 hj).2.2
          rw [he, Nat.testBit_or, hj, Bool.or_true] at h1; cases h1
        refine next _ _ ?_ ⟨X ||| w', w', rfl, hor, fun j hj => by rw [Nat.testBit_or, hj, Bool.or_true], fun j hj => ?_, fun j hj => by rw [Nat.testBit_or, hSX j hj, Bool.true_or], ?_, ?_, rfl⟩
        · rw [hm, if_neg e]
          by_cases e' : w' = 0
          · rw [if_pos e']; omega
          · rw [if_neg e']; have := hne e'; omega
        · rw [Nat.testBit_or, Bool.or_eq_true] at hj
          rcases hj with hj | hj
          · exact hXo j hj
          · exact ((hb j).1 hj).2.1
        · intro j hj
          rw [Nat.testBit_or, Bool.or_eq_true] at hj
          rcases hj with hj | hj
          · exact hXr j hj
          · obtain ⟨h1 | ⟨k, h1, h2⟩, h3, h4⟩ := (hb j).1 hj
            · rw [hw j h1] at h4; cases h4
            · exact .step (hXr k (hw k h1)) h2 (by rw [Nat.testBit_or, h3, Bool.or_true])
        · intro k j h1 h2 h3 h4
          rw [Nat.testBit_or, h2, Bool.or_false] at h1
          rw [Nat.testBit_or]
          by_cases hk : w.testBit k = true
          · cases hx : X.testBit j with
            | true => rfl
            | false => rw [(hb j).2 ⟨.inr ⟨k, hk, h3⟩, h4, hx⟩]; rfl
          · rw [hc k j h1 (by simpa using hk) h3 h4]; rfl
      · have el := leastIn_W g lf hr e2 hbig ht n (by omega)
        obtain ⟨l1, l2, l3, l4⟩ := low_ok hr e2
        obtain ⟨d1, d2⟩ := f_drop hr e2
        have hlt := without_less hr e2
        have hwl := without_lt9 (k := lowN r) hr
        obtain ⟨k, hk⟩ : ∃ k, k = lowN r := ⟨_, rfl⟩
        rw [← hk] at el l1 l2 d2 hlt hwl
        have hnv := nearV_lt hB l2
        have hwr := hrw k l1
        repeat (first | with_reducible refine wT ?_ | with_reducible refine wptr ?_ | with_reducible refine wbd (by assumption) ?_ | (with_reducible refine wbd (fs0 _) ?_) | (with_reducible refine wia9 l2 ?_) | (with_reducible refine wbd (ld1 (by assumption) (srch_near _ _ _ _ l2)) ?_) | with_reducible refine wor (by omega) (by omega) ?_ | with_reducible refine wneqT (by omega) ?_ | dsimp only)
        refine next2 _ _ (hm2 ▸ hlt) ⟨_, _, rfl, Nat.or_lt_two_pow hwd hnv, hwl, fun j hj => ?_, fun j => ?_, rfl⟩
        · rw [without_bit, Bool.and_eq_true] at hj; exact hrw j hj.1
        · rw [Nat.testBit_or, Bool.or_eq_true, hwb]
          constructor
          · rintro (⟨i, h1, h2, h3⟩ | h1)
            · exact ⟨i, h1, by rw [without_bit, h2]; rfl, h3⟩
            · exact ⟨k, hwr, by rw [without_bit]; simp, h1⟩
          · rintro ⟨i, h1, h2, h3⟩
            by_cases hik : i = k
            · subst hik; exact .inr h3
            · rw [without_bit] at h2
              simp only [ne_eq, hik, not_false_eq_true, decide_true, Bool.and_true] at h2
              exact .inl ⟨i, h1, h2, h3⟩
  obtain ⟨_, _, e, rfl, rfl⟩ := this
  exact e

def whoN (R C a b : Nat) : Nat := if joinsN R C 1 a = true then 1 else if joinsN R C 2 b = true then 2 else 0

theorem joined_W {R C f a b t : Nat} (hB : BoardOf R C) (hp : Pos R C a b) (hbig : Big g) {h : PHeap} {s m : Nat} (hs : At h s (srchC R C m)) (ht : Tab64 g h) (N : Nat) (hN : 5 ≤ N) (hlf : 1000 < lf) :
    ∃ h', CL g lf N fn_impl_search_joined [.ptr s 0, stP f a b t] h = some (.int .i64 (whoN R C a b : Int), h') ∧ Keep h.length h h' := by
  obtain ⟨n, rfl⟩ : ∃ n, N = n + 1 := ⟨N - 1, by omega⟩
  have : W (CL g lf (n + 1) fn_impl_search_joined [.ptr s 0, stP f a b t] h) fun v h' => v = .int .i64 (whoN R C a b : Int) ∧ Keep h.length h h' := by
    rw [impl_search_joined.call_eq]
    unfold impl_search_joined.main
    simp only [env_lf, env_box]
    refine wboxS fun h1 id o1 k1 l1 => ?_
    have hs1 := hs.keep k1
    have e1 := joins_W g lf hB (P := 1) (.inl rfl) hp.1 hbig hs1 (ht.keep k1) n (by omega) hlf
    have e2 := joins_W g lf hB (P := 2) (.inr rfl) hp.2.1 hbig hs1 (ht.keep k1) n (by omega) hlf
    refine loopW (fun m' st => ∃ P : Nat, st = impl_search_joined.st0 (.ptr s 0) (.ptr id 0) (.int .i64 (P : Int)) h1 ∧ P + m' = 3 ∧ 1 ≤ P ∧ (2 ≤ P → joinsN R C 1 a = false) ∧ (3 ≤ P → joinsN R C 2 b = false)) ?_ lf 2 _ (by omega) ⟨1, rfl, rfl, by decide, by omega, by omega⟩
    rintro n1 m1 st ⟨P, rfl, hm, hP1, j1, j2⟩ next
    rw [impl_search_joined.body0_eq]
    unfold impl_search_joined.body0
    simp only [env_C, env_load, env_bin, env_fieldAddr, env_indexAddr]
    have hP : P = 1 ∨ P = 2 ∨ P = 3 := by omega
    rcases hP with rfl | rfl | rfl
    · cases hj : joinsN R C 1 a with
      | true =>
        rw [hj] at e1
        repeat (first | with_reducible refine wT ?_ | with_reducible refine wrI ?_ | with_reducible refine wbd (by assumption) ?_ | (with_reducible refine wbd (fSt0 _) ?_) | (with_reducible refine wia3 (by omega) ?_) | (with_reducible refine wbd (ld1 (by assumption) rfl) ?_) | with_reducible refine wleqT (by omega) ?_ | rw [kLoop_ret] | rw [impl_search_joined.K0_ret] | rw [impl_search_joined.top_sr_4] | dsimp only)
        exact W.ret ⟨by unfold whoN; rw [hj]; rfl, k1⟩
      | false =>
        rw [hj] at e1
        repeat (first | with_reducible refine wT ?_ | with_reducible refine wF ?_ | with_reducible refine wbd (by assumption) ?_ | (with_reducible refine wbd (fSt0 _) ?_) | (with_reducible refine wia3 (by omega) ?_) | (with_reducible refine wbd (ld1 (by assumption) rfl) ?_) | with_reducible refine wadd1 (by omega) ?_ | with_reducible refine wleqT (by omega) ?_ | dsimp only)
        exact next _ _ (show 1 < m1 by omega) ⟨2, rfl, rfl, by decide, fun _ => hj, by omega⟩
    · cases hj : joinsN R C 2 b with
      | true =>
        rw [hj] at e2
        repeat (first | with_reducible refine wT ?_ | with_reducible refine wrI ?_ | with_reducible refine wbd (by assumption) ?_ | (with_reducible refine wbd (fSt0 _) ?_) | (with_reducible refine wia3 (by omega) ?_) | (with_reducible refine wbd (ld1 (by assumption) rfl) ?_) | with_reducible refine wleqT (by omega) ?_ | rw [kLoop_ret] | rw [impl_search_joined.K0_ret] | rw [impl_search_joined.top_sr_4] | dsimp only)
        exact W.ret ⟨by unfold whoN; rw [j1 (by decide), hj]; rfl, k1⟩
      | false =>
        rw [hj] at e2
        repeat (first | with_reducible refine wT ?_ | with_reducible refine wF ?_ | with_reducible refine wbd (by assumption) ?_ | (with_reducible refine wbd (fSt0 _) ?_) | (with_reducible refine wia3 (by omega) ?_) | (with_reducible refine wbd (ld1 (by assumption) rfl) ?_) | with_reducible refine wadd1 (by omega) ?_ | with_reducible refine wleqT (by omega) ?_ | dsimp only)
        exact next _ _ (show 0 < m1 by omega) ⟨3, rfl, rfl, by decide, fun _ => j1 (by decide), fun _ => hj⟩
    · repeat (first | with_reducible refine wF ?_ | with_reducible refine wrI ?_ | with_reducible refine wleqF (by omega) ?_ | rw [kLoop_exit] | rw [impl_search_joined.after0_se0_0_3_5_7])
      exact W.ret ⟨by unfold whoN; rw [j1 (by decide), j2 (by decide)]; rfl, k1⟩
  obtain ⟨_, h', e, rfl, k⟩ := this
  exact ⟨h', e, k⟩

end Go.Proofs.YtocjdekcmhgjeaaDoor

/- The program's search with its map: who wins what stands, and by which moves. -/
set_option maxRecDepth 20000
namespace Go.Proofs.YtocjdekcmhgjeaaDoor
open Go Go.Ip G

/-- What may stand: free cells, stones of both, who is to move. -/
def Stands (R C f a b t : Nat) : Prop := Pos R C a b ∧ f < 2 ^ 9 ∧ (∀ k, f.testBit k = true ↔ k < R * C ∧ (a ||| b).testBit k = false) ∧ (t = 1 ∨ t = 2)
theorem Stands.put {R C f a b t k : Nat} (h : Stands R C f a b t) (hk : f.testBit k = true) : Stands R C (without f k) (putA t k a) (putB t k b) (3 - t) := by
  obtain ⟨h1, h2, h3, h4⟩ := h
  obtain ⟨k1, k2⟩ := (h3 k).1 hk
  refine ⟨h1.put k1 k2, without_lt9 h2, fun j => ?_, by omega⟩
  rw [without_bit, put_bit, Bool.and_eq_true, h3, Bool.or_eq_false_iff]
  simp only [decide_eq_true_eq, decide_eq_false_iff_not]
  exact ⟨fun ⟨⟨a1, a2⟩, a3⟩ => ⟨a1, a2, a3⟩, fun ⟨a1, a2, a3⟩ => ⟨⟨a1, a2⟩, a3⟩⟩

/-- Every entry of the map tells who wins. -/
def Memo (R C : Nat) (es : List (PV × PV)) : Prop := ∀ p ∈ es, ∃ f a b t, Stands R C f a b t ∧ p = (stP f a b t, .int .i64 (winN R C a b t : Int))

theorem eqK_st {f a b t f' a' b' t' : Nat} (h : eqK (stP f a b t) (stP f' a' b' t') = true) : f = f' ∧ a = a' ∧ b = b' ∧ t = t' := by
  simp only [eqK, stP, stC, eqL, eq1, Bool.and_eq_true, decide_eq_true_eq] at h
  omega
theorem memo_find {R C f a b t : Nat} : ∀ {es : List (PV × PV)} {v : PV}, Memo R C es → findM es (stP f a b t) = some v → v = .int .i64 (winN R C a b t : Int)
  | [], v, _, h => by cases h
  | p :: es, v, hm, h => by
    obtain ⟨f', a', b', t', _, rfl⟩ := hm p (by simp)
    unfold findM at h
    cases e : eqK (stP f' a' b' t') (stP f a b t) with
    | true =>
      rw [e] at h
      obtain ⟨_, rfl, rfl, rfl⟩ := eqK_st e
      cases h; rfl
    | false =>
      rw [e] at h
      exact memo_find (fun q hq => hm q (by simp [hq])) h
theorem memo_put {R C f a b t : Nat} (hs : Stands R C f a b t) : ∀ {es : List (PV × PV)}, Memo R C es → Memo R C (putM es (stP f a b t) (.int .i64 (winN R C a b t : Int)))
  | [], _ => fun p hp => by
    simp only [putM, List.mem_singleton] at hp
    exact ⟨f, a, b, t, hs, hp⟩
  | p :: es, hm => by
    obtain ⟨f', a', b', t', hs', rfl⟩ := hm p (by simp)
    have hr : Memo R C es := fun q hq => hm q (by simp [hq])
    unfold putM
    cases e : eqK (stP f' a' b' t') (stP f a b t) with
    | true =>
      obtain ⟨rfl, rfl, rfl, rfl⟩ := eqK_st e
      intro q hq
      rcases List.mem_cons.1 hq with rfl | hq
      · exact ⟨f', a', b', t', hs, rfl⟩
      · exact hr q hq
    | false =>
      intro q hq
      rcases List.mem_cons.1 hq with rfl | hq
      · exact ⟨f', a', b', t', hs', rfl⟩
      · exact memo_put hs hr q hq

/-! ### the keys -/
theorem keyedSt : keyedB Tryd.prog 54 = true := by kernel_rfl
theorem zeroInt : zero1 Tryd.prog 3 = some (.int .i64 0) := by kernel_rfl
theorem stU : Tryd.prog.underlying 54 = some (.struct (Tryd.prog.fieldsOf 54)) := by kernel_rfl
theorem stF : (Tryd.prog.fieldsOf 54).toList.map (fun f => (f.type, f.offset)) = [(52, 0), (3, 3)] := by kernel_rfl
theorem stN : (Tryd.prog.fieldsOf 54).all (·.name != "_") = true := by kernel_rfl
theorem stK : Tryd.prog.keyType 54 = true := by kernel_rfl
theorem tyIntU : Tryd.prog.underlying 3 = some (.int .i64) := by kernel_rfl
theorem ce1 : Tryd.prog.cellsOf 3 = 1 := by kernel_rfl
theorem ce3 : Tryd.prog.cellsOf 52 = 3 := by kernel_rfl
theorem ce4 : Tryd.prog.cellsOf 54 = 4 := by kernel_rfl
theorem tySz : Nat.ble 2 Tryd.prog.types.size = true := by kernel_rfl
theorem wf_small {x : Nat} (hx : x < 2 ^ 9) : (Lit.int .i64 (x : Int)).wf = true := by
  have h1 : IntKind.i64.min = -9223372036854775808 := by decide
  have h2 : IntKind.i64.max = 9223372036854775807 := by decide
  simp only [Lit.wf, h1, h2, Bool.and_eq_true, decide_eq_true_eq]
  omega
theorem lits_int {D x : Nat} (hx : x < 2 ^ 9) : Tryd.prog.keyLits (D + 1) 3 [.int .i64 (x : Int)] = some [.int .i64 (x : Int)] := by
  simp [Program.keyLits, tyIntU, wf_small hx]
theorem lits_arr {D x y z : Nat} (hx : x < 2 ^ 9) (hy : y < 2 ^ 9) (hz : z < 2 ^ 9) : Tryd.prog.keyLits (D + 2) 52 [.int .i64 (x : Int), .int .i64 (y : Int), .int .i64 (z : Int)] = some [.int .i64 (x : Int), .int .i64 (y : Int), .int .i64 (z : Int)] := by
  unfold Program.keyLits
  rw [tyA3]
  simp only [ce1, ce3, List.length_cons, List.length_nil, if_true]
  rw [show List.range 3 = [0, 1, 2] from rfl]
  simp [lits_int hx, lits_int hy, lits_int hz]
theorem lits_st {D f a b t : Nat} (hf : f < 2 ^ 9) (ha : a < 2 ^ 9) (hb : b < 2 ^ 9) (ht : t < 2 ^ 9) : ∃ L, Tryd.prog.keyLits (D + 3) 54 [.int .i64 (f : Int), .int .i64 (a : Int), .int .i64 (b : Int), .int .i64 (t : Int)] = some L := by
  unfold Program.keyLits
  rw [stU]
  simp only [ce4, List.length_cons, List.length_nil, stN, and_self, if_true]
  have hF := stF
  generalize Tryd.prog.fieldsOf 54 = fs at hF ⊢
  obtain ⟨L⟩ := fs
  match L, hF with
  | [f0, f1], hF =>
    simp only [List.map_cons, List.map_nil, List.cons.injEq, Prod.mk.injEq, and_true] at hF
    obtain ⟨⟨t0, o0⟩, t1, o1⟩ := hF
    refine ⟨[.int .i64 (f : Int), .int .i64 (a : Int), .int .i64 (b : Int), .int .i64 (t : Int)], ?_⟩
    simp [t0, o0, t1, o1, ce1, ce3, lits_arr hf ha hb, lits_int ht]
  | [], hF => simp at hF
  | [_], hF => simp at hF
  | _ :: _ :: _ :: _, hF => simp at hF
theorem isKey_st {R C f a b t : Nat} (hB : BoardOf R C) (hs : Stands R C f a b t) : isKeyP Tryd.prog 54 (stP f a b t) = true := by
  obtain ⟨hp, hf, _, ht⟩ := hs
  have l9 := hp.lt9 hB
  obtain ⟨D, hD⟩ : ∃ D, Tryd.prog.types.size + 1 = D + 3 := ⟨Tryd.prog.types.size - 2, by have := Nat.le_of_ble_eq_true tySz; omega⟩
  obtain ⟨L, hL⟩ := lits_st (D := D) hf l9.1 l9.2 (show t < 2 ^ 9 by omega)
  have hk : keyV (stP f a b t) = some (.agg #[.int .i64 (f : Int), .int .i64 (a : Int), .int .i64 (b : Int), .int .i64 (t : Int)]) := rfl
  have hfo : (Value.agg #[.int .i64 (f : Int), .int .i64 (a : Int), .int .i64 (b : Int), .int .i64 (t : Int)]).formed Tryd.prog 54 = true := by
    simp [Value.formed, stU, ce4]
  unfold isKeyP
  rw [hk]
  simp only [keyOf, stU, stK, hfo, Bool.and_self, if_true, hD, Value.cells, hL, Option.map_some, Option.isSome_some]
theorem keys_memo {R C : Nat} {es : List (PV × PV)} (hB : BoardOf R C) (hm : Memo R C es) {f a b t : Nat} (hs : Stands R C f a b t) : keysB Tryd.prog 54 es (stP f a b t) = true := by
  unfold keysB
  rw [keyedSt, isKey_st hB hs, Bool.and_self, Bool.true_and, List.all_eq_true]
  intro p hp
  obtain ⟨f', a', b', t', hs', rfl⟩ := hm p hp
  exact isKey_st hB hs'

theorem look_st {R C m : Nat} {es : List (PV × PV)} {h : PHeap} (hB : BoardOf R C) (hM : MapAt h m es) (hm : Memo R C es) {f a b t : Nat} (hs : Stands R C f a b t) :
    lookupP Tryd.prog 47 (.mapv m) (stP f a b t) true h = some (foundP true (.int .i64 0) (findM es (stP f a b t))) := by
  have hk := keys_memo hB hm hs
  have hma : mapAt h m = some es := by unfold mapAt; rw [show h[m]? = some (.mp es) from hM]
  simp only [lookupP, tyMp, hma, zeroInt, hk, cond_true]
theorem upd_st {R C m : Nat} {es : List (PV × PV)} {h : PHeap} (hB : BoardOf R C) (hM : MapAt h m es) (hm : Memo R C es) {f a b t : Nat} (hs : Stands R C f a b t) (x : Int) :
    updateP Tryd.prog 47 (.mapv m) (stP f a b t) (.int .i64 x) h = some (h.set m (.mp (putM es (stP f a b t) (.int .i64 x)))) := by
  have hk := keys_memo hB hm hs
  have hma : mapAt h m = some es := by unfold mapAt; rw [show h[m]? = some (.mp es) from hM]
  simp only [updateP, tyMp, hma, hk, PV.oneCell, Bool.and_self, cond_true]

/-- The search of a board: its tables, and its map, right in every entry. -/
def Sch (R C : Nat) (h : PHeap) (s m : Nat) : Prop := At h s (srchC R C m) ∧ ∃ es, MapAt h m es ∧ Memo R C es
theorem Sch.keep {R C s m : Nat} {h h' : PHeap} (hs : Sch R C h s m) (k : Keep h.length h h') : Sch R C h' s m := by
  obtain ⟨a, es, b, c⟩ := hs; exact ⟨a.keep k, es, b.keep k, c⟩
theorem Sch.ne {R C s m id : Nat} {h : PHeap} {l : List PV} (hs : Sch R C h s m) (a : At h id l) : id ≠ m := by
  obtain ⟨_, es, b, _⟩ := hs; exact a.ne b
theorem Sch.lt {R C s m : Nat} {h : PHeap} (hs : Sch R C h s m) : m < h.length := by
  obtain ⟨_, es, b, _⟩ := hs; exact b.lt
theorem Tab64.kb {g : Nat → PV} {R C s m : Nat} {h h' : PHeap} (t : Tab64 g h) (hs : Sch R C h s m) (k : KB m h h') : Tab64 g h' := fun id e => by
  have ho := t id e
  obtain ⟨_, es, b, _⟩ := hs
  rw [k.2 id (List.getElem?_eq_some_iff.1 ho).1 (fun e => by subst e; unfold MapAt at b; rw [ho] at b; cases b)]; exact ho
theorem Tab.kb {g : Nat → PV} {R C s m : Nat} {h h' : PHeap} (t : Tab g h) (hs : Sch R C h s m) (k : KB m h h') : Tab g h' := by
  obtain ⟨id, e, ho⟩ := t
  obtain ⟨_, es, b, _⟩ := hs
  exact ⟨id, e, by rw [k.2 id (List.getElem?_eq_some_iff.1 ho).1 (fun e => by subst e; unfold MapAt at b; rw [ho] at b; cases b)]; exact ho⟩

theorem who_win {R C a b t : Nat} (hB : BoardOf R C) (hp : Pos R C a b) : (whoN R C a b ≠ 0 → winN R C a b t = whoN R C a b) ∧ (whoN R C a b = 0 → joinsN R C 1 a = false ∧ joinsN R C 2 b = false) ∧ whoN R C a b ≤ 2 := by
  unfold whoN
  cases h1 : joinsN R C 1 a with
  | true => exact ⟨fun _ => win_first h1, fun h => by simp at h, by simp⟩
  | false =>
    cases h2 : joinsN R C 2 b with
    | true => exact ⟨fun _ => by rw [win_second hB hp h2]; rfl, fun h => by simp at h, by simp⟩
    | false => exact ⟨fun h => by simp at h, fun _ => ⟨rfl, rfl⟩, by simp⟩

theorem fr_put' {R C f a b t k : Nat} (hs : Stands R C f a b t) (hk : f.testBit k = true) : frN (R * C) (putA t k a) (putB t k b) + 1 ≤ frN (R * C) a b := by
  obtain ⟨k1, k2⟩ := (hs.2.2.1 k).1 hk; exact fr_put k1 k2

variable (g : Nat → PV) (lf n : Nat)

def WinOk (R C s m : Nat) (b : Nat) : Prop := ∀ (f a b' t N : Nat) (h : PHeap), frN (R * C) a b' ≤ b → Stands R C f a b' t → 2 * b + 8 ≤ N → Sch R C h s m → Tab64 g h →
  W (CL g lf N fn_impl_search_winner [.ptr s 0, stP f a b' t] h) fun v h' => v = .int .i64 (winN R C a b' t : Int) ∧ Sch R C h' s m ∧ KB m h h'

theorem solved_W {R C s m B : Nat} (hB : BoardOf R C) (hbig : Big g) (hlf : 1000 < lf) (ih : ∀ b, b < B → WinOk g lf R C s m b) {f a b t : Nat} (hfr : frN (R * C) a b ≤ B) (hst : Stands R C f a b t) (N : Nat) (hN : 2 * B + 7 ≤ N) {h : PHeap} (hs : Sch R C h s m) (ht : Tab64 g h) :
    W (CL g lf N fn_impl_search_solved [.ptr s 0, stP f a b t] h) fun v h' => v = .int .i64 (winN R C a b t : Int) ∧ Sch R C h' s m ∧ KB m h h' := by
  obtain ⟨n, rfl⟩ : ∃ n, N = n + 1 := ⟨N - 1, by omega⟩
  obtain ⟨hp, hf9, hfree, hT⟩ := id hst
  have h9 := hB.2.2.2.2
  have l9 := hp.lt9 hB
  obtain ⟨w1, w2, w3⟩ := who_win (t := t) hB hp
  rw [impl_search_solved.call_eq]
  unfold impl_search_solved.main
  simp only [env_C, env_lf, env_box, env_load, env_bin, env_fieldAddr, env_indexAddr]
  refine wboxS fun h1 id o1 k1 l1 => ?_
  have hs1 := hs.keep k1
  have ht1 := ht.keep k1
  obtain ⟨h2, e1, k2⟩ := joined_W g lf (f := f) (t := t) hB hp hbig hs1.1 ht1 n (by omega) hlf
  have hs2 := hs1.keep k2
  have ht2 := ht1.keep k2
  have o2 := o1.keep k2
  repeat (first | with_reducible refine wbd (by assumption) ?_ | (with_reducible refine wbd (ldS (by assumption)) ?_) | dsimp only)
  refine wneq (fun e => ?_) (fun e => ?_)
  · repeat (first | with_reducible refine wT ?_ | with_reducible refine wrI ?_)
    exact W.ret ⟨by rw [w1 (by omega)], hs2, k1.kb.trans k2.kb⟩
  · obtain ⟨j1, j2⟩ := w2 (by omega)
    have hwo := win_open (t := t) j1 j2
    have e3 : ∀ h, CL g lf n fn_impl_exchanged [.int .i64 (t : Int)] h = some (.int .i64 ((3 - t : Nat) : Int), h) := fun h => exchanged_W g lf n (by omega) h hT
    repeat (first | with_reducible refine wF ?_ | (with_reducible refine wbd (fSt0 _) ?_) | (with_reducible refine wia30 ?_) | (with_reducible refine wbd (ld1 (by assumption) rfl) ?_))
    refine loopW (fun m' st => ∃ (r : Nat) (h3 : PHeap), st = impl_search_solved.st0 (.ptr s 0) (.ptr id 0) (.int .i64 (r : Int)) h3 ∧ r < 2 ^ 9 ∧ (∀ k, r.testBit k = true → f.testBit k = true) ∧ (∀ k, f.testBit k = true → r.testBit k = false → winN R C (putA t k a) (putB t k b) (3 - t) ≠ t) ∧
      At h3 id (stC f a b t) ∧ Sch R C h3 s m ∧ Tab64 g h3 ∧ KB m h2 h3 ∧ m' = r) ?_ lf f _ (by omega) ⟨f, h2, rfl, hf9, fun _ h => h, fun k h1 h2 => (by rw [h1] at h2; cases h2), o2, hs2, ht2, KB.refl _ _, rfl⟩
    rintro n1 m1 st ⟨r, h3, rfl, hr, hrf, hno, o3, hs3, ht3, k3, hm⟩ next
    rw [impl_search_solved.body0_eq]
    unfold impl_search_solved.body0
    simp only [env_C, env_load, env_bin, env_fieldAddr]
    by_cases e4 : r = 0
    · subst e4
      have e3' := e3 h3
      repeat (first | with_reducible refine wF ?_ | with_reducible refine wrI ?_ | with_reducible refine wbd (by assumption) ?_ | (with_reducible refine wbd (fSt1 _) ?_) | (with_reducible refine wbd (ld1 (by assumption) rfl) ?_) | with_reducible refine wneqF (by omega) ?_ | rw [kLoop_exit] | rw [impl_search_solved.after0_se0_0_3_6_17] | dsimp only | simp only [env_C, env_Y, env_g, env_lf, env_pick, env_alloc, env_box, env_build, env_buildSlice, env_load, env_store, env_ptr, env_bin, env_un, env_conv, env_make, env_slice, env_fieldAddr, env_field, env_indexAddr, env_index, env_extract, env_len, env_append, env_max, env_min, env_makeMap, env_lookup, env_update, env_clos])
      refine W.ret ⟨?_, hs3, (k1.kb.trans k2.kb).trans k3⟩
      have hmv : moveB R C a b t = false := by
        cases hh : moveB R C a b t with
        | false => rfl
        | true =>
          obtain ⟨k, c1, c2, c3⟩ := moveB_iff.1 hh
          exact absurd c3 (hno k ((hfree k).2 ⟨c1, c2⟩) (Nat.zero_testBit _))
      rw [hwo, hmv]; rfl
    · have el := leastIn_W g lf hr e4 hbig ht3 n (by omega)
      obtain ⟨c1, c2, c3, c4⟩ := low_ok hr e4
      obtain ⟨d1, d2⟩ := f_drop hr e4
      have hlt := without_less hr e4
      have hwl := without_lt9 (k := lowN r) hr
      obtain ⟨k, hk⟩ : ∃ k, k = lowN r := ⟨_, rfl⟩
      rw [← hk] at el c1 c2 d2 hlt hwl
      have hkf := hrf k c1
      have hfr' := fr_put' hst hkf
      have hst' := hst.put hkf
      repeat (first | with_reducible refine wT ?_ | with_reducible refine wck plain_int ?_ | with_reducible refine wbd (by assumption) ?_ | (with_reducible refine wbd (fSt1 _) ?_) | (with_reducible refine wbd (ld1 (by assumption) rfl) ?_) | (with_reducible refine wbd (ldS (by assumption)) ?_) | (with_reducible refine wck plainS ?_) | with_reducible refine wneqT (by omega) ?_ | dsimp only)
      refine wcall (after_W g lf hf9 l9.1 l9.2 c2 hT n (by omega) h3) fun v h4 ⟨hv, k4⟩ => ?_
      subst hv
      have o4 := o3.keep k4
      have hs4 := hs3.keep k4
      have ht4 := ht3.keep k4
      repeat (first | with_reducible refine wck plain_int ?_ | (with_reducible refine wbd (ld1 (by assumption) rfl) ?_) | (with_reducible refine wbd (ldS (by assumption)) ?_) | (with_reducible refine wck plainS ?_) | dsimp only)
      refine wcall (ih (B - 1) (by omega) _ _ _ _ n h4 (by omega) hst' (by omega) hs4 ht4) fun v h5 ⟨hv, hs5, k5⟩ => ?_
      subst hv
      have o5 := o4.kb k5 (hs4.ne o4)
      have ht5 := ht4.kb hs4 k5
      repeat (first | with_reducible refine wck plain_int ?_ | (with_reducible refine wbd (ld1 (by assumption) rfl) ?_) | (with_reducible refine wbd (ldS (by assumption)) ?_) | (with_reducible refine wck plainS ?_) | dsimp only)
      refine weql (fun e5 => ?_) (fun e5 => ?_)
      · repeat (first | with_reducible refine wT ?_ | with_reducible refine wrI ?_ | (with_reducible refine wbd (fSt1 _) ?_) | (with_reducible refine wbd (ld1 (by assumption) rfl) ?_) | rw [kLoop_ret] | rw [impl_search_solved.K0_ret] | rw [impl_search_solved.top_sr_4])
        refine W.ret ⟨?_, hs5, ((k1.kb.trans k2.kb).trans k3).trans (k4.kb.trans k5)⟩
        obtain ⟨q1, q2⟩ := (hfree k).1 hkf
        have hmv : moveB R C a b t = true := moveB_iff.2 ⟨k, q1, q2, by omega⟩
        rw [hwo, hmv]; rfl
      · repeat (first | with_reducible refine wF ?_ | with_reducible refine wbd (by assumption) ?_)
        refine next _ _ (hm ▸ hlt) ⟨_, h5, rfl, hwl, fun j hj => ?_, fun j hj1 hj2 => ?_, o5, hs5, ht5, k3.trans (k4.kb.trans k5), rfl⟩
        · rw [without_bit, Bool.and_eq_true] at hj; exact hrf j hj.1
        · by_cases hjk : j = k
          · subst hjk; omega
          · rw [without_bit] at hj2
            simp only [ne_eq, hjk, not_false_eq_true, decide_true, Bool.and_true] at hj2
            exact hno j hj1 hj2

theorem sWinner_W {R C s m : Nat} (hB : BoardOf R C) (hbig : Big g) (hlf : 1000 < lf) (B : Nat) : WinOk g lf R C s m B := by
  induction B using Nat.strongRecOn with
  | _ B ih =>
  intro f a b t N h hfr hst hN hs ht
  obtain ⟨n, rfl⟩ : ∃ n, N = n + 1 := ⟨N - 1, by omega⟩
  rw [impl_search_winner.call_eq]
  unfold impl_search_winner.main
  simp only [env_C, env_box, env_load, env_ptr, env_un, env_fieldAddr, env_extract, env_lookup, env_update]
  refine wboxS fun h1 id o1 k1 l1 => ?_
  have hs1 := hs.keep k1
  have ht1 := ht.keep k1
  obtain ⟨sa, es, ma, mm⟩ := _root_.id hs1
  have hlook := look_st hB ma mm hst
  repeat (first | with_reducible refine wptr ?_ | with_reducible refine wbd (by assumption) ?_ | (with_reducible refine wbd (fs3 _) ?_) | (with_reducible refine wbd (ldS (by assumption)) ?_) | (with_reducible refine wbd (ldM (by assumption) (srch_map _ _ _)) ?_) | dsimp only)
  cases hfd : findM es (stP f a b t) with
  | some v =>
    have hv := memo_find mm hfd
    subst hv
    refine wx0 ?_
    refine wx1 ?_
    repeat (first | with_reducible refine wF ?_ | with_reducible refine wnT ?_ | with_reducible refine wrI ?_)
    exact W.ret ⟨rfl, hs1, k1.kb⟩
  | none =>
    refine wx0 ?_
    refine wx1 ?_
    repeat (first | with_reducible refine wT ?_ | with_reducible refine wnF ?_ | (with_reducible refine wbd (ldS (by assumption)) ?_))
    refine wcall (solved_W g lf hB hbig hlf ih hfr hst n (by omega) hs1 ht1) fun v h2 ⟨hv, hs2, k2⟩ => ?_
    subst hv
    have o2 := o1.kb k2 (hs1.ne o1)
    obtain ⟨sa2, es2, ma2, mm2⟩ := _root_.id hs2
    repeat (first | with_reducible refine wptr ?_ | (with_reducible refine wbd (fs3 _) ?_) | (with_reducible refine wbd (ldS (by assumption)) ?_) | (with_reducible refine wbd (ldM (by assumption) (srch_map _ _ _)) ?_) | dsimp only)
    refine wbd (upd_st hB ma2 mm2 hst _) ?_
    have ma3 : MapAt (h2.set m (.mp (putM es2 (stP f a b t) (.int .i64 (winN R C a b t : Int))))) m (putM es2 (stP f a b t) (.int .i64 (winN R C a b t : Int))) := by
      unfold MapAt; rw [List.getElem?_set_self ma2.lt]
    have k3 : KB m h2 (h2.set m (.mp (putM es2 (stP f a b t) (.int .i64 (winN R C a b t : Int))))) := ⟨by simp, fun i _ hn => List.getElem?_set_ne (by omega)⟩
    generalize h2.set m (.mp (putM es2 (stP f a b t) (.int .i64 (winN R C a b t : Int)))) = h3 at ma3 k3 ⊢
    have sa3 := sa2.kb k3 (sa2.ne ma2)
    repeat (first | with_reducible refine wrI ?_)
    exact W.ret ⟨rfl, ⟨sa3, _, ma3, memo_put hst mm2⟩, (k1.kb.trans k2).trans k3⟩

end Go.Proofs.YtocjdekcmhgjeaaDoor

/- The program's search: made for a board, begun at a position; the moves by which one wins. -/
set_option maxRecDepth 20000
namespace Go.Proofs.YtocjdekcmhgjeaaDoor
open Go Go.Ip G

variable (g : Nat → PV) (lf n : Nat)

/-! ### a search is made -/
def slotV (R C i p j : Nat) : Nat :=
  if j < 9 then (if j < i then nearV R C j else 0) else if j = 10 ∧ 2 ≤ p then sideN R C 1 false else if j = 11 ∧ 3 ≤ p then sideN R C 2 false else if j = 13 ∧ 2 ≤ p then sideN R C 1 true else if j = 14 ∧ 3 ≤ p then sideN R C 2 true else 0
def fillC (R C m i p : Nat) : List PV := ((List.range 15).map (slotV R C i p)).map (fun x : Nat => .int .i64 (x : Int)) ++ [.mapv m]
theorem fillC_length (R C m i p : Nat) : (fillC R C m i p).length = 16 := by simp [fillC]
theorem fill_done (R C m : Nat) : fillC R C m (R * C) 3 = srchC R C m := by
  have hn : ∀ j ∈ List.range 9, slotV R C (R * C) 3 j = nearV R C j := fun j hj => by
    have hj := List.mem_range.1 hj
    unfold slotV nearV
    rw [if_pos hj]
    by_cases h : j < R * C <;> simp [h]
  unfold fillC srchC srchV
  rw [show List.range 15 = List.range 9 ++ [9, 10, 11, 12, 13, 14] from rfl, List.map_append, List.map_congr_left hn]
  rfl
theorem fill_near {R C m i p : Nat} (hi : i < 9) : (fillC R C m i p).set (0 + i) (.int .i64 (nearV R C i : Int)) = fillC R C m (i + 1) p := by
  unfold fillC
  rw [Nat.zero_add, List.set_append_left _ _ (by simp; omega), ← List.map_set]
  congr 2
  apply List.ext_getElem (by simp)
  intro j h1 h2
  simp only [List.getElem_set, List.getElem_map, List.getElem_range]
  unfold slotV
  by_cases e : i = j
  · subst e; rw [if_pos rfl, if_pos hi, if_pos (by omega)]
  · rw [if_neg e]
    by_cases h9 : j < 9
    · rw [if_pos h9, if_pos h9]
      by_cases h : j < i
      · rw [if_pos h, if_pos (by omega)]
      · rw [if_neg h, if_neg (by omega)]
    · rw [if_neg h9, if_neg h9]
theorem fill_one (R C m i : Nat) : ((fillC R C m i 1).set (9 + 1) (.int .i64 (sideN R C 1 false : Int))).set (12 + 1) (.int .i64 (sideN R C 1 true : Int)) = fillC R C m i 2 := by rfl
theorem fill_two (R C m i : Nat) : ((fillC R C m i 2).set (9 + 2) (.int .i64 (sideN R C 2 false : Int))).set (12 + 2) (.int .i64 (sideN R C 2 true : Int)) = fillC R C m i 3 := by rfl
theorem bldS (m : Nat) : buildP Tryd.prog 79 [(3, .mapv m)] = some (.agg (fillC 1 1 m 0 1)) := by kernel_rfl
theorem fill_zero (R C m : Nat) : fillC 1 1 m 0 1 = fillC R C m 0 1 := by
  unfold fillC
  congr 2

theorem wmkM {Q : PV → PHeap → Prop} {h : PHeap} {F : PV × PHeap → Res} (hf : ∀ h' m, MapAt h' m [] → Keep h.length h h' → h.length ≤ m → W (F (.mapv m, h')) Q) : W ((makeMapP none h).bind F) Q :=
  hf _ _ (by unfold MapAt; simp) (Keep.append _ _ _ (Nat.le_refl _)) (Nat.le_refl _)

theorem newSearch_W {R C : Nat} (hB : BoardOf R C) (N : Nat) (hN : 7 ≤ N) (hlf : 1000 < lf) {h : PHeap} (ht : Tab g h) :
    W (CL g lf N fn_impl_newSearch [.int .i64 (R : Int), .int .i64 (C : Int)] h) fun v h' => ∃ s m, v = .ptr s 0 ∧ Sch R C h' s m ∧ Keep h.length h h' ∧ h.length ≤ s ∧ h.length ≤ m := by
  obtain ⟨n, rfl⟩ : ∃ n, N = n + 1 := ⟨N - 1, by omega⟩
  obtain ⟨b1, b2, b3, b4, h9⟩ := id hB
  rw [impl_newSearch.call_eq]
  unfold impl_newSearch.main
  simp only [env_lf, env_box, env_build, env_bin, env_makeMap]
  refine wmkM fun h1 m ma k1 lm => ?_
  refine wbd (bldS m) ?_
  refine wnew (l := fillC 1 1 m 0 1) (by rfl) fun h2 s o2 k2 ls => ?_
  dsimp only at k2 ls ⊢
  rw [fill_zero R C] at o2
  have ma2 := ma.keep k2
  have kk := k1.trans (k2.mono k1.1)
  have lss : h.length ≤ s := Nat.le_trans k1.1 ls
  have hRC : R * C < 4611686018427387904 := by omega
  repeat (first | with_reducible refine wmulN (by omega) ?_)
  refine loopW (fun m' st => ∃ (i : Nat) (h3 : PHeap), st = impl_newSearch.st0 (.int .i64 (R : Int)) (.int .i64 (C : Int)) (.ptr s 0) (.int .i64 ((R * C : Nat) : Int)) (.int .i64 (i : Int)) h3 ∧ i + m' = R * C ∧ At h3 s (fillC R C m i 1) ∧ MapAt h3 m [] ∧ Keep h.length h h3) ?_ lf (R * C) _ (by omega) ⟨0, h2, rfl, by omega, o2, ma2, kk⟩
  rintro n1 m1 st ⟨i, h3, rfl, him, o3, ma3, k3⟩ next
  rw [impl_newSearch.body0_eq]
  unfold impl_newSearch.body0
  simp only [env_C, env_store, env_ptr, env_bin, env_fieldAddr, env_indexAddr]
  cases m1 with
  | succ m1 =>
    have hi : i < 9 := by omega
    have hsl := shl_lt hi
    have hnv : wideN R C (1 <<< i) = nearV R C i := by unfold nearV; rw [if_pos (by omega)]
    obtain ⟨h4, e4, k4⟩ := withNear_calls g lf b1 b2 b3 b4 h9 hsl n (by omega) (by omega) (ht.keep k3)
    have o4 := o3.keep k4
    rw [hnv] at e4
    repeat (first | with_reducible refine wT ?_ | with_reducible refine wptr ?_ | with_reducible refine wbd (by assumption) ?_ | (with_reducible refine wbd (fs0 _) ?_) | (with_reducible refine wia9 hi ?_) | with_reducible refine wshl (by omega) ?_ | with_reducible refine wlssT (by omega) ?_ | dsimp only)
    refine wst1 o4 (by rw [fillC_length]; omega) fun h5 o5 k5 => ?_
    rw [fill_near hi] at o5
    have ma5 := (ma3.keep k4).kb k5 (o4.ne (ma3.keep k4)).symm
    repeat (first | with_reducible refine wadd1 (by omega) ?_)
    exact next _ _ (Nat.lt_succ_self m1) ⟨i + 1, h5, rfl, by omega, o5, ma5, (k3.trans (k4.mono k3.1)).kbs (Nat.le_refl _) k5 lss⟩
  | zero =>
    have hiR : i = R * C := by omega
    subst hiR
    repeat (first | with_reducible refine wF ?_ | with_reducible refine wlssF (by omega) ?_ | rw [kLoop_exit] | rw [impl_newSearch.after0_se0_0_1_5_13_14_15] | simp only [env_C, env_Y, env_g, env_lf, env_pick, env_alloc, env_box, env_build, env_buildSlice, env_load, env_store, env_ptr, env_bin, env_un, env_conv, env_make, env_slice, env_fieldAddr, env_field, env_indexAddr, env_index, env_extract, env_len, env_append, env_max, env_min, env_makeMap, env_lookup, env_update, env_clos])
    refine loopW (fun m' st => ∃ (P : Nat) (h4 : PHeap), st = impl_newSearch.st1 (.int .i64 (R : Int)) (.int .i64 (C : Int)) (.ptr s 0) (.int .i64 (P : Int)) h4 ∧ P + m' = 3 ∧ 1 ≤ P ∧ At h4 s (fillC R C m (R * C) P) ∧ MapAt h4 m [] ∧ Keep h.length h h4) ?_ lf 2 _ (by omega) ⟨1, h3, rfl, rfl, by decide, o3, ma3, k3⟩
    rintro n2 m2 st ⟨P, h4, rfl, hPm, hP1, o4, ma4, k4⟩ next2
    have hP : P = 1 ∨ P = 2 ∨ P = 3 := by omega
    have e1 := fun h => sidesOf_W g lf hB (P := 1) (.inl rfl) n (by omega) hlf h
    have e2 := fun h => sidesOf_W g lf hB (P := 2) (.inr rfl) n (by omega) hlf h
    rw [impl_newSearch.body1_eq]
    unfold impl_newSearch.body1
    simp only [env_C, env_store, env_ptr, env_bin, env_fieldAddr, env_indexAddr, env_extract]
    rcases hP with rfl | rfl | rfl
    · have e1' := e1 h4
      repeat (first | with_reducible refine wT ?_ | with_reducible refine wx0 ?_ | with_reducible refine wx1 ?_ | with_reducible refine wptr ?_ | with_reducible refine wbd (by assumption) ?_ | (with_reducible refine wbd (fs1 _) ?_) | (with_reducible refine wbd (fs2 _) ?_) | (with_reducible refine wia3 (by omega) ?_) | with_reducible refine wleqT (by omega) ?_ | dsimp only)
      refine wst1 o4 (by rw [fillC_length]; decide) fun h5 o5 k5 => ?_
      repeat (first | (with_reducible refine wia3 (by omega) ?_))
      refine wst1 o5 (by rw [List.length_set, fillC_length]; decide) fun h6 o6 k6 => ?_
      rw [fill_one] at o6
      repeat (first | with_reducible refine wadd1 (by omega) ?_)
      exact next2 _ _ (show 1 < m2 by omega) ⟨2, h6, rfl, rfl, by decide, o6, (ma4.kb k5 (o4.ne ma4).symm).kb k6 (o4.ne ma4).symm, (k4.kbs (Nat.le_refl _) k5 lss).kbs (Nat.le_refl _) k6 lss⟩
    · have e2' := e2 h4
      repeat (first | with_reducible refine wT ?_ | with_reducible refine wx0 ?_ | with_reducible refine wx1 ?_ | with_reducible refine wptr ?_ | with_reducible refine wbd (by assumption) ?_ | (with_reducible refine wbd (fs1 _) ?_) | (with_reducible refine wbd (fs2 _) ?_) | (with_reducible refine wia3 (by omega) ?_) | with_reducible refine wleqT (by omega) ?_ | dsimp only)
      refine wst1 o4 (by rw [fillC_length]; decide) fun h5 o5 k5 => ?_
      repeat (first | (with_reducible refine wia3 (by omega) ?_))
      refine wst1 o5 (by rw [List.length_set, fillC_length]; decide) fun h6 o6 k6 => ?_
      rw [fill_two] at o6
      repeat (first | with_reducible refine wadd1 (by omega) ?_)
      exact next2 _ _ (show 0 < m2 by omega) ⟨3, h6, rfl, rfl, by decide, o6, (ma4.kb k5 (o4.ne ma4).symm).kb k6 (o4.ne ma4).symm, (k4.kbs (Nat.le_refl _) k5 lss).kbs (Nat.le_refl _) k6 lss⟩
    · repeat (first | with_reducible refine wF ?_ | with_reducible refine wrP ?_ | with_reducible refine wleqF (by omega) ?_ | rw [kLoop_exit] | rw [impl_newSearch.after1_se2_0_1_5_7_29])
      rw [fill_done] at o4
      exact W.ret ⟨s, m, rfl, ⟨o4, [], ma4, fun p hp => by cases hp⟩, k4, lss, Nat.le_trans (Nat.le_refl _) lm⟩

/-! ### where it begins -/
theorem bldSt (t : Nat) : buildP Tryd.prog 54 [(1, .int .i64 (t : Int))] = some (stP 0 0 0 t) := by kernel_rfl
theorem standingOf_W {xs : List Int} {p : PV} {h : PHeap} (hp : IntSl .i64 h p xs) (hl : xs.length ≤ 20) (t : Nat) (N : Nat) (hN : 2 ≤ N) (hlf : 1000 < lf) :
    W (CL g lf N fn_impl_standingOf [p, .int .i64 (t : Int)] h) fun v h' => v = stP (setL xs 0) (setL xs 1) (setL xs 2) t ∧ Keep h.length h h' := by
  obtain ⟨n, rfl⟩ : ∃ n, N = n + 1 := ⟨N - 1, by omega⟩
  rw [impl_standingOf.call_eq]
  unfold impl_standingOf.main
  simp only [env_lf, env_alloc, env_build, env_store]
  refine walS fun h1 id1 o1 k1 l1 => ?_
  refine wbd (bldSt t) ?_
  dsimp only
  refine walS fun h2 id2 o2 k2 l2 => ?_
  dsimp only
  have o1' := o1.keep k2
  have hne : id1 ≠ id2 := by have := o1.lt; omega
  refine wstS o2 fun h3 o3 k3 => ?_
  have o13 := o1'.kb k3 hne
  have kk : Keep h.length h h3 := (k1.trans (k2.mono k1.1)).kbs (Nat.le_refl _) k3 (Nat.le_trans k1.1 l2)
  have ll2 : h.length ≤ id2 := Nat.le_trans k1.1 l2
  refine loopW (fun m' st => ∃ (P u v w : Nat) (h4 : PHeap), st = impl_standingOf.st0 p (.ptr id1 0) (.ptr id2 0) (.int .i64 (P : Int)) h4 ∧ P + m' = 3 ∧ At h4 id2 (stC u v w t) ∧ At h4 id1 (stC 0 0 0 0) ∧ Keep h.length h h4 ∧ (1 ≤ P → u = setL xs 0) ∧ (2 ≤ P → v = setL xs 1) ∧ (3 ≤ P → w = setL xs 2)) ?_ lf 3 _ (by omega) ⟨0, 0, 0, 0, h3, rfl, rfl, o3, o13, kk, by omega, by omega, by omega⟩
  rintro n1 m1 st ⟨P, u, v, w, h4, rfl, hPm, o4, o14, k4, hu, hv, hw⟩ next
  have hP : P = 0 ∨ P = 1 ∨ P = 2 ∨ P = 3 := by omega
  have hp4 := hp.keep k4
  have e0 := setOf_W g lf ((0 : Nat) : Int) hp4 hl n (by omega) hlf
  have e1 := setOf_W g lf ((1 : Nat) : Int) hp4 hl n (by omega) hlf
  have e2 := setOf_W g lf ((2 : Nat) : Int) hp4 hl n (by omega) hlf
  rw [impl_standingOf.body0_eq]
  unfold impl_standingOf.body0
  simp only [env_C, env_store, env_bin, env_fieldAddr, env_indexAddr]
  rcases hP with rfl | rfl | rfl | rfl
  · repeat (first | with_reducible refine wT ?_ | with_reducible refine wbd (by assumption) ?_ | (with_reducible refine wbd (fSt0 _) ?_) | (with_reducible refine wia3 (by omega) ?_) | with_reducible refine wlssT (by omega) ?_ | dsimp only)
    refine wst1 o4 (show 0 + 0 < 4 by decide) fun h5 o5 k5 => ?_
    repeat (first | with_reducible refine wadd1 (by omega) ?_)
    exact next _ _ (show 2 < m1 by omega) ⟨1, setL xs 0, v, w, h5, rfl, rfl, o5, o14.kb k5 hne, k4.kbs (Nat.le_refl _) k5 ll2, fun _ => rfl, by omega, by omega⟩
  · repeat (first | with_reducible refine wT ?_ | with_reducible refine wbd (by assumption) ?_ | (with_reducible refine wbd (fSt0 _) ?_) | (with_reducible refine wia3 (by omega) ?_) | with_reducible refine wlssT (by omega) ?_ | dsimp only)
    refine wst1 o4 (show 0 + 1 < 4 by decide) fun h5 o5 k5 => ?_
    repeat (first | with_reducible refine wadd1 (by omega) ?_)
    exact next _ _ (show 1 < m1 by omega) ⟨2, u, setL xs 1, w, h5, rfl, rfl, o5, o14.kb k5 hne, k4.kbs (Nat.le_refl _) k5 ll2, fun _ => hu (by decide), fun _ => rfl, by omega⟩
  · repeat (first | with_reducible refine wT ?_ | with_reducible refine wbd (by assumption) ?_ | (with_reducible refine wbd (fSt0 _) ?_) | (with_reducible refine wia3 (by omega) ?_) | with_reducible refine wlssT (by omega) ?_ | dsimp only)
    refine wst1 o4 (show 0 + 2 < 4 by decide) fun h5 o5 k5 => ?_
    repeat (first | with_reducible refine wadd1 (by omega) ?_)
    exact next _ _ (show 0 < m1 by omega) ⟨3, u, v, setL xs 2, h5, rfl, rfl, o5, o14.kb k5 hne, k4.kbs (Nat.le_refl _) k5 ll2, fun _ => hu (by decide), fun _ => hv (by decide), fun _ => rfl⟩
  · repeat (first | with_reducible refine wF ?_ | (with_reducible refine wbd (ldS (by assumption)) ?_) | with_reducible refine wlssF (by omega) ?_ | rw [kLoop_exit] | rw [impl_standingOf.after0_se0_0_4_5_9_10] | simp only [env_C, env_Y, env_g, env_lf, env_pick, env_alloc, env_box, env_build, env_buildSlice, env_load, env_store, env_ptr, env_bin, env_un, env_conv, env_make, env_slice, env_fieldAddr, env_field, env_indexAddr, env_index, env_extract, env_len, env_append, env_max, env_min, env_makeMap, env_lookup, env_update, env_clos])
    refine wstS o14 fun h5 o5 k5 => ?_
    repeat (first | (with_reducible refine wbd (ldS (by assumption)) ?_))
    exact W.ret ⟨by rw [hu (by decide), hv (by decide), hw (by decide)], k4.kbs (Nat.le_refl _) k5 l1⟩

theorem stands_of {R C T : Nat} {xs : List Int} (hS : Sides (R : Int) (C : Int) R C xs) (hT : T = 1 ∨ T = 2) : Stands R C (setL xs 0) (setL xs 1) (setL xs 2) T := by
  refine ⟨pos_sets hS, set_lt9 hS 0, fun k => ?_, hT⟩
  rw [setL_bit]
  constructor
  · intro hk
    have hkl := set_in hS (setL_bit.2 hk)
    exact ⟨hkl, (free_bit hS hkl).2 hk⟩
  · rintro ⟨h1, h2⟩; exact (free_bit hS h1).1 h2

end Go.Proofs.YtocjdekcmhgjeaaDoor

/- The program's chapter 3: MoveOk, Played, WinnerOf, WinningCells and LinePlayed compute what the model's do. -/
set_option maxRecDepth 20000
namespace Go.Proofs.YtocjdekcmhgjeaaDoor
open Go Go.Ip G

variable (g : Nat → PV) (lf n : Nat)

/-! ### moves -/
theorem moveOk_W (hlf : 1000 < lf) (N : Nat) (hN : 30 ≤ N) (r c k pl : Int) {xs : List Int} {p : PV} {h : PHeap} (ht : TabOk g h) (hp : IntSl .i64 h p xs) (hl : xs.length ≤ 2 ^ 35) (hf : xs.length < lf) :
    ∃ h', CL g lf N fn_impl_MoveOk [.int .i64 r, .int .i64 c, p, .int .i64 k, .int .i64 pl] h = some (.bool (moveL r c xs k pl), h') ∧ Keep h.length h h' := by
  obtain ⟨n, rfl⟩ : ∃ n, N = n + 1 := ⟨N - 1, by omega⟩
  have hpos := positionOk_N g lf n (by omega) r c hp (by omega) hf
  have hplay := playerOk_W g lf n (by omega) h pl
  have hcell := cellOk_N g lf n (by omega) h r c k
  have : W (CL g lf (n + 1) fn_impl_MoveOk [.int .i64 r, .int .i64 c, p, .int .i64 k, .int .i64 pl] h) fun v h' => v = .bool (moveL r c xs k pl) ∧ Keep h.length h h' := by
    rw [impl_MoveOk.call_eq]
    unfold impl_MoveOk.main
    simp only [env_C, env_pick, env_load, env_bin, env_un, env_indexAddr]
    unfold moveL
    cases hb : posB r c xs with
    | false =>
      rw [hb] at hpos
      repeat (first | with_reducible refine wT ?_ | with_reducible refine wg0 rfl ?_ | with_reducible refine wpT ?_ | with_reducible refine wnF ?_ | with_reducible refine wsm ?_ | with_reducible refine wrB ?_ | with_reducible refine wbd (by assumption) ?_ | dsimp only)
      exact W.ret ⟨rfl, Keep.refl _ _⟩
    | true =>
      rw [hb] at hpos
      cases hpl : playerB pl with
      | false =>
        rw [hpl] at hplay
        repeat (first | with_reducible refine wT ?_ | with_reducible refine wg1 rfl ?_ | with_reducible refine wg0 rfl ?_ | with_reducible refine wpT ?_ | with_reducible refine wpF ?_ | with_reducible refine wnT ?_ | with_reducible refine wnF ?_ | with_reducible refine wpv ?_ | with_reducible refine wsm ?_ | with_reducible refine wrB ?_ | with_reducible refine wbd (by assumption) ?_ | dsimp only)
        exact W.ret ⟨rfl, Keep.refl _ _⟩
      | true =>
        rw [hpl] at hplay
        obtain ⟨R, C, hS⟩ := sides_of hb
        obtain ⟨rfl, rfl, _, _, _, _, h9, hlen, _⟩ := id hS
        have hbb : boardB (R : Int) (C : Int) = true := by unfold posB at hb; simp only [Bool.and_eq_true] at hb; exact hb.1.1
        have hcb : cellB (R : Int) (C : Int) k = decide (0 ≤ k ∧ k < (xs.length : Int)) := by
          unfold cellB; rw [hbb, hlen, Bool.true_and]; rfl
        rw [hcb] at hcell
        cases hk : decide (0 ≤ k ∧ k < (xs.length : Int)) with
        | false =>
          rw [hk] at hcell
          repeat (first | with_reducible refine wT ?_ | with_reducible refine wg1 rfl ?_ | with_reducible refine wpF ?_ | with_reducible refine wnT ?_ | with_reducible refine wnF ?_ | with_reducible refine wpv ?_ | with_reducible refine wsm ?_ | with_reducible refine wrB ?_ | with_reducible refine wbd (by assumption) ?_ | dsimp only)
          exact W.ret ⟨rfl, Keep.refl _ _⟩
        | true =>
          rw [hk] at hcell
          have hkb := of_decide_eq_true hk
          obtain ⟨K, rfl⟩ := Int.eq_ofNat_of_zero_le hkb.1
          have hK : K < xs.length := by omega
          have hgd : xs.getD (K : Int).toNat 0 = xs[K] := by
            rw [show ((K : Int).toNat) = K from rfl, List.getD_eq_getElem?_getD, List.getElem?_eq_getElem hK]; rfl
          rw [hgd]
          obtain ⟨h1, e1, k1⟩ := joinsOk g lf hlf n (by omega) R C 1 ht hp hl hf
          obtain ⟨h2, e2, k2⟩ := joinsOk g lf hlf n (by omega) R C 2 (ht.keep k1) (hp.keep k1) hl hf
          repeat (first | with_reducible refine wF ?_ | with_reducible refine wg1 rfl ?_ | with_reducible refine wpF ?_ | with_reducible refine wnT ?_ | with_reducible refine wpv ?_ | with_reducible refine wsm ?_ | with_reducible refine wbd (by assumption) ?_ | (with_reducible refine wat hp hK fun a hl => ?_) | dsimp only)
          refine weql (fun e => ?_) (fun e => ?_)
          · rw [decide_eq_true e]
            cases hj1 : joinsL (R : Int) (C : Int) xs 1 with
            | true =>
              rw [hj1] at e1
              repeat (first | with_reducible refine wg1 rfl ?_ | with_reducible refine wg0 rfl ?_ | with_reducible refine wpT ?_ | with_reducible refine wpF ?_ | with_reducible refine wnT ?_ | with_reducible refine wpv ?_ | with_reducible refine wsm ?_ | with_reducible refine wrB ?_ | with_reducible refine wbd (by assumption) ?_ | dsimp only)
              exact W.ret ⟨by simp, k1⟩
            | false =>
              rw [hj1] at e1
              cases hj2 : joinsL (R : Int) (C : Int) xs 2 with
              | true =>
                rw [hj2] at e2
                repeat (first | with_reducible refine wg1 rfl ?_ | with_reducible refine wpT ?_ | with_reducible refine wnT ?_ | with_reducible refine wnF ?_ | with_reducible refine wpv ?_ | with_reducible refine wsm ?_ | with_reducible refine wrB ?_ | with_reducible refine wbd (by assumption) ?_ | dsimp only)
                exact W.ret ⟨by simp, k1.trans (k2.mono k1.1)⟩
              | false =>
                rw [hj2] at e2
                repeat (first | with_reducible refine wg1 rfl ?_ | with_reducible refine wpT ?_ | with_reducible refine wnF ?_ | with_reducible refine wpv ?_ | with_reducible refine wsm ?_ | with_reducible refine wrB ?_ | with_reducible refine wbd (by assumption) ?_ | dsimp only)
                exact W.ret ⟨by simp, k1.trans (k2.mono k1.1)⟩
          · rw [decide_eq_false e]
            repeat (first | with_reducible refine wg0 rfl ?_ | with_reducible refine wpF ?_ | with_reducible refine wsm ?_ | with_reducible refine wrB ?_ | dsimp only)
            exact W.ret ⟨by simp, Keep.refl _ _⟩
  obtain ⟨_, h', e, rfl, k⟩ := this
  exact ⟨h', e, k⟩

theorem clone_W {xs : List Int} {p : PV} {h : PHeap} (hp : IntSl .i64 h p xs) (hx : 0 < xs.length) (hl : xs.length ≤ 2 ^ 36) (N : Nat) (hN : 1 ≤ N) :
    W (CL g lf N fn_slices_Clone___int_int_ [p] h) fun q h' => OwnSl h.length h' q xs ∧ Keep h.length h h' := by
  obtain ⟨n, rfl⟩ : ∃ n, N = n + 1 := ⟨N - 1, by omega⟩
  obtain ⟨v, q, h2, e2, e3, o2, k2⟩ := copy_all hp hx hl
  rw [slices_Clone___int_int_.call_eq]
  unfold slices_Clone___int_int_.main
  simp only [env_buildSlice, env_bin, env_append]
  rcases hp with ⟨rfl, rfl⟩ | ⟨id, off, rfl, hc⟩
  · simp at hx
  · refine wnilF ?_
    repeat (first | with_reducible refine wF ?_ | with_reducible refine wbd (by assumption) ?_ | with_reducible refine wresO (by assumption) ?_ | dsimp only)
    exact W.ret ⟨o2, k2⟩

theorem playedOk (hlf : 1000 < lf) : PlayedOk g lf := by
  intro N hN r c k pl xs p h ht hp hl hf
  obtain ⟨n, rfl⟩ : ∃ n, N = n + 1 := ⟨N - 1, by omega⟩
  obtain ⟨h1, e1, k1⟩ := moveOk_W g lf hlf n (by omega) r c k pl ht hp hl hf
  have : W (CL g lf (n + 1) fn_impl_Played [.int .i64 r, .int .i64 c, p, .int .i64 k, .int .i64 pl] h) fun v h' => ∃ q, v = .tup [q, .bool (moveL r c xs k pl)] ∧ OwnSl h.length h' q (playedL r c xs k pl) ∧ Keep h.length h h' := by
    rw [impl_Played.call_eq]
    unfold impl_Played.main
    simp only [env_C, env_store, env_un, env_indexAddr]
    unfold playedL
    cases hm : moveL r c xs k pl with
    | false =>
      rw [hm] at e1
      repeat (first | with_reducible refine wT ?_ | with_reducible refine wnF ?_ | with_reducible refine wrB ?_ | with_reducible refine wrN ?_ | with_reducible refine wbd (by assumption) ?_ | dsimp only)
      exact W.ret ⟨_, rfl, OwnSl.nil _ _, k1⟩
    | true =>
      rw [hm] at e1
      obtain ⟨K, rfl, hK⟩ := moveL_cell hm
      repeat (first | with_reducible refine wF ?_ | with_reducible refine wnT ?_ | with_reducible refine wbd (by assumption) ?_ | dsimp only | simp only [env_C, env_Y, env_g, env_lf, env_pick, env_alloc, env_box, env_build, env_buildSlice, env_load, env_store, env_ptr, env_bin, env_un, env_conv, env_make, env_slice, env_fieldAddr, env_field, env_indexAddr, env_index, env_extract, env_len, env_append, env_max, env_min, env_makeMap, env_lookup, env_update, env_clos])
      refine wcall (clone_W g lf (hp.keep k1) (by omega) (by omega) n (by omega)) fun q h2 ⟨o2, k2⟩ => ?_
      repeat (first | with_reducible refine wrB ?_ | (refine wst o2 hK fun h3 o3 k3 l3 a e4 => ?_) | with_reducible refine wresO (by assumption) ?_ | dsimp only)
      skip
      exact W.ret ⟨_, rfl, o3.mono k1.1, k1.trans ((k2.trans k3).mono k1.1)⟩
  obtain ⟨_, h', e, q, rfl, o, k⟩ := this
  exact ⟨q, h', e, o, k⟩

/-! ### who wins -/
theorem winnerOk (hbig : Big g) (hlf : 1000 < lf) : WinnerOk g lf := by
  intro N hN r c t xs p h ht hp hl hf
  obtain ⟨n, rfl⟩ : ∃ n, N = n + 1 := ⟨N - 1, by omega⟩
  have hpos := positionOk_N g lf n (by omega) r c hp (by omega) hf
  have hplay := playerOk_W g lf n (by omega) h t
  have : W (CL g lf (n + 1) fn_impl_WinnerOf [.int .i64 r, .int .i64 c, p, .int .i64 t] h) fun v h' => v = .int .i64 (winL r c xs t) ∧ Keep h.length h h' := by
    rw [impl_WinnerOf.call_eq]
    unfold impl_WinnerOf.main
    simp only [env_C, env_pick, env_un]
    cases hb : posB r c xs with
    | false =>
      rw [hb] at hpos
      repeat (first | with_reducible refine wT ?_ | with_reducible refine wg0 rfl ?_ | with_reducible refine wpT ?_ | with_reducible refine wnF ?_ | with_reducible refine wsm ?_ | with_reducible refine wrI ?_ | with_reducible refine wbd (by assumption) ?_ | dsimp only)
      exact W.ret ⟨by rw [winL_none (.inl hb)], Keep.refl _ _⟩
    | true =>
      rw [hb] at hpos
      cases hpl : playerB t with
      | false =>
        rw [hpl] at hplay
        repeat (first | with_reducible refine wT ?_ | with_reducible refine wg1 rfl ?_ | with_reducible refine wpF ?_ | with_reducible refine wnT ?_ | with_reducible refine wnF ?_ | with_reducible refine wpv ?_ | with_reducible refine wsm ?_ | with_reducible refine wrI ?_ | with_reducible refine wbd (by assumption) ?_ | dsimp only)
        refine W.ret ⟨?_, Keep.refl _ _⟩
        unfold winL; rw [hpl, Bool.and_false]; rfl
      | true =>
        rw [hpl] at hplay
        obtain ⟨R, C, hS⟩ := sides_of hb
        obtain ⟨T, rfl, hT⟩ := player_of hpl
        have hB := board_of_sides hS
        obtain ⟨rfl, rfl, _, _, _, _, h9, hlen, _⟩ := id hS
        repeat (first | with_reducible refine wF ?_ | with_reducible refine wg1 rfl ?_ | with_reducible refine wpF ?_ | with_reducible refine wnT ?_ | with_reducible refine wpv ?_ | with_reducible refine wsm ?_ | with_reducible refine wbd (by assumption) ?_ | dsimp only)
        refine wcall (newSearch_W g lf hB n (by omega) hlf ht.1) fun v h1 ⟨s, m, hv, hs, k1, l1, l2⟩ => ?_
        subst hv
        repeat (first | dsimp only)
        refine wcall (standingOf_W g lf (hp.keep k1) (by omega) T n (by omega) hlf) fun v h2 ⟨hv, k2⟩ => ?_
        subst hv
        repeat (first | dsimp only)
        refine wcall (sWinner_W g lf hB hbig hlf 9 _ _ _ _ n h2 (Nat.le_trans (fr_le _ _ _) h9) (stands_of hS hT) (by omega) (hs.keep k2) ((ht.2.keep k1).keep k2)) fun v h3 ⟨hv, hs3, k3⟩ => ?_
        subst hv
        repeat (first | with_reducible refine wrI ?_ | dsimp only)
        exact W.ret ⟨by rw [winL_eq hb hT], (k1.trans (k2.mono k1.1)).kbs (Nat.le_refl _) k3 l2⟩
  obtain ⟨_, h', e, rfl, k⟩ := this
  exact ⟨h', e, k⟩

theorem who_zero {R C : Nat} {xs : List Int} (hb : posB (R : Int) (C : Int) xs = true) : whoN R C (setL xs 1) (setL xs 2) = 0 ↔ joinsL (R : Int) (C : Int) xs 1 = false ∧ joinsL (R : Int) (C : Int) xs 2 = false := by
  rw [joins_one hb, joins_two hb]
  unfold whoN
  cases joinsN R C 1 (setL xs 1) <;> cases joinsN R C 2 (setL xs 2) <;> simp

/-! ### a line -/
/-- A list of integers at an object of its own. -/
def SlAt (i : Nat) (h : PHeap) (p : PV) (ys : List Int) : Prop := (p = .nilsl ∧ ys = []) ∨ (p = .sl i 0 ys.length ∧ At h i (ys.map (.int .i64)))
theorem SlAt.keep {i : Nat} {h h' : PHeap} {p : PV} {ys : List Int} (s : SlAt i h p ys) (k : Keep h.length h h') : SlAt i h' p ys := by
  rcases s with s | ⟨a, b⟩
  · exact .inl s
  · exact .inr ⟨a, b.keep k⟩
theorem SlAt.kb {i m : Nat} {h h' : PHeap} {p : PV} {ys : List Int} (s : SlAt i h p ys) (k : KB m h h') (hn : i ≠ m) : SlAt i h' p ys := by
  rcases s with s | ⟨a, b⟩
  · exact .inl s
  · exact .inr ⟨a, b.kb k hn⟩
theorem SlAt.own {i n : Nat} {h : PHeap} {p : PV} {ys : List Int} (s : SlAt i h p ys) (hn : n ≤ i) : OwnSl n h p ys := by
  rcases s with s | ⟨a, b⟩
  · exact .inl s
  · exact .inr ⟨i, hn, a, b⟩
theorem wapS {Q : PV → PHeap → Prop} {i : Nat} {h : PHeap} {p : PV} {ys : List Int} (s : SlAt i h p ys) {x : Int} (hl : ys.length + 1 ≤ 2 ^ 36) {F : PV × PHeap → Res}
    (hf : ∀ p' h' j, SlAt j h' p' (ys ++ [x]) → KB i h h' → h.length ≤ j → W (F (p', h')) Q) :
    W ((buildSliceP Tryd.prog 23 1 [(0, .int .i64 x)] h).bind fun v => (appendP Tryd.prog 23 23 p v.1 v.2).bind F) Q := by
  have hb : buildSliceP Tryd.prog 23 1 [(0, .int .i64 x)] h = some (.sl h.length 0 1, h ++ [.own 1 [.int .i64 x]]) := by
    simp [buildSliceP, tyElem, tySize, tyZero, repeatCells, fillP, PV.cells, setCells]
  have hsrc : srcP (h ++ [.own 1 [.int .i64 x]]) 1 (.sl h.length 0 1) = some (1, [.int .i64 x]) := by
    simp [srcP, cellsAt, PObj.get]
  refine wbd hb ?_
  rcases s with ⟨rfl, rfl⟩ | ⟨rfl, h3⟩
  · refine wbd (v := (.sl (h.length + 1) 0 1, h ++ [.own 1 [.int .i64 x]] ++ [.own 1 [.int .i64 x]])) (by simp [appendP, tyElem, tySize, tySmall, hsrc]) ?_
    refine hf _ _ (h.length + 1) (.inr ⟨rfl, ?_⟩) ?_ (by omega)
    · unfold At; rw [List.getElem?_append_right (by simp)]; simp
    · rw [List.append_assoc]; exact (Keep.append _ _ _ (Nat.le_refl _)).kb
  · have hid := h3.lt
    have h3' : (h ++ [PObj.own 1 [.int .i64 x]])[i]? = some (.own 1 (ys.map (.int .i64))) := by rw [List.getElem?_append_left hid]; exact h3
    refine wbd (v := (.sl (h.length + 1) 0 (ys.length + 1), ((h ++ [PObj.own 1 [.int .i64 x]]).set i .dead ++ [PObj.own 1 (ys.map (.int .i64) ++ [.int .i64 x])]))) (by simp [appendP, tyElem, tySize, tySmall, hsrc, h3', hl]) ?_
    refine hf _ _ (h.length + 1) (.inr ⟨by simp, ?_⟩) ?_ (by omega)
    · unfold At; rw [List.getElem?_append_right (by simp)]; simp
    · refine ⟨by simp; omega, fun j hj hne => ?_⟩
      rw [List.getElem?_append_left (by simp; omega), List.getElem?_set_ne (by omega), List.getElem?_append_left hj]
theorem Sch.kbo {R C s m i : Nat} {h h' : PHeap} (hs : Sch R C h s m) (k : KB i h h') (h1 : s ≠ i) (h2 : m ≠ i) : Sch R C h' s m := by
  obtain ⟨a, es, b, c⟩ := hs; exact ⟨a.kb k h1, es, b.kb k h2, c⟩
end Go.Proofs.YtocjdekcmhgjeaaDoor

