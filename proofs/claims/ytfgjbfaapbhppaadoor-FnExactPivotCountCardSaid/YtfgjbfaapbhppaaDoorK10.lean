/- Texts of this seat, in their order, put together by program. -/
import Derived.Test.YtfgjbfaapbhppaaDoorK9
set_option linter.unusedSimpArgs false
set_option linter.unusedVariables false
set_option linter.unusedSectionVars false
/- The model's chapters 4 and 5: what Openings, PairCell, PairFilled, MattersAt, DeadCells, FillCount and PivotCount of it compute. -/
namespace Go.Proofs.YtfgjbfaapbhppaaDoor
open Go Go.Ip G

theorem f_shlN (x y : Nat) (hx : x ≤ 512) (hy : y ≤ 30) : binP Tryd.prog .shl 3 (.int .i64 (x : Int)) (.int .i64 (y : Int)) = some (.int .i64 ((x <<< y : Nat) : Int)) := by
  have h0 : ¬ ((y : Int) < 0) := by omega
  have hm : min ((y : Int).toNat) (IntKind.i64.bits) = y := by
    have : IntKind.i64.bits = 64 := rfl
    rw [this]; omega
  simp only [binP, shI, if_neg h0, hm]
  congr 2
  rw [Nat.shiftLeft_eq]
  have : ((2 : Int) ^ y) = ((2 ^ y : Nat) : Int) := by simp
  rw [this, ← Int.natCast_mul]
  have hle : 2 ^ y ≤ 2 ^ 30 := Nat.pow_le_pow_right (by decide) hy
  have : x * 2 ^ y ≤ 512 * 2 ^ 30 := Nat.mul_le_mul hx hle
  exact wr (by omega)

section
variable {Q : PV → PHeap → Prop} {x y : Nat} {f : PV → Res}
theorem wshlN (hx : x ≤ 512) (hy : y ≤ 30) (hf : W (f (.int .i64 ((x <<< y : Nat) : Int))) Q) : W ((binP Tryd.prog .shl 3 (.int .i64 (x : Int)) (.int .i64 (y : Int))).bind f) Q := wbd (f_shlN x y hx hy) hf
theorem wquo2 (h2 : x < 9223372036854775808) (hf : W (f (.int .i64 ((x / 2 : Nat) : Int))) Q) : W ((binP Tryd.prog .quo 3 (.int .i64 (x : Int)) (.int .i64 2)).bind f) Q :=
  wbd (by
    rw [bin_quo (by decide)]
    have : (x : Int).tdiv 2 = ((x / 2 : Nat) : Int) := rfl
    rw [this]
    have : IntKind.i64.wrap ((x / 2 : Nat) : Int) = ((x / 2 : Nat) : Int) := wr (by omega)
    rw [this]) hf
end

variable (g : Nat → PV) (lf n : Nat)

/-! ### pairs -/
theorem boardB_of {r c : Int} (h : boardB r c = true) : ∃ R C : Nat, r = (R : Int) ∧ c = (C : Int) ∧ BoardOf R C := by
  unfold boardB at h
  have := of_decide_eq_true h
  obtain ⟨R, rfl⟩ := Int.eq_ofNat_of_zero_le (show 0 ≤ r by omega)
  obtain ⟨C, rfl⟩ := Int.eq_ofNat_of_zero_le (show 0 ≤ c by omega)
  have h9 := this.2.2.2.2
  rw [← Int.natCast_mul] at h9
  exact ⟨R, C, rfl, rfl, by omega, by omega, by omega, by omega, by omega⟩
def pairL (r c k : Int) : Int := if (boardB r c && decide (r < c) && decide (0 ≤ k ∧ k < r * c)) = true then pairI r.toNat c.toNat k.toNat else -1
def pairFillL (r c ch : Int) : List Int := if (boardB r c && decide (r < c) && decide (0 ≤ ch)) = true then pairFillN r.toNat c.toNat ch.toNat else []
def openL (r c pl : Int) : List Int := if (boardB r c && playerB pl) = true then winCellsL r c (freeL r.toNat c.toNat) pl else []

theorem boardOk_spec (N : Nat) (hN : 2 ≤ N) (h : PHeap) (r c : Int) : CL g lf N fn_spec_BoardOk [.int .i64 r, .int .i64 c] h = some (.bool (boardB r c), h) := by
  obtain ⟨n, rfl⟩ : ∃ n, N = n + 2 := ⟨N - 2, by omega⟩
  exact specBoardOk_calls g lf n h r c

theorem pfF_length (R C : Nat) : ∀ (m k : Nat) (out : List Int) (ch : Nat), (pfF R C m k out ch).length = out.length
  | 0, _, _, _ => rfl
  | m + 1, k, out, ch => by
    rw [pfF]
    repeat' split
    all_goals rw [pfF_length R C m]
    all_goals simp

/-! ### fillings -/
theorem listN_cells (S : Nat) : listN S = (cellsN S).map fun k : Nat => (k : Int) := listN_filter S
theorem cells_len9 (S : Nat) : (cellsN S).length ≤ 9 := by
  unfold cellsN; have := List.length_filter_le S.testBit (List.range 9); rw [List.length_range] at this; exact this
theorem fillN_lt : ∀ {l : List Nat} {m : Nat}, (∀ j ∈ l, j < 9) → fillN l m < 2 ^ 9
  | [], _, _ => by rw [fillN]; decide
  | c :: l, m, h => by
    have hc := h c (List.mem_cons_self ..)
    have ih := fillN_lt (l := l) (m := m / 2) fun j hj => h j (List.mem_cons_of_mem _ hj)
    rw [fillN]
    refine Nat.or_lt_two_pow ?_ ih
    have := Nat.mod_two_eq_zero_or_one m
    rcases this with e | e
    · rw [e, Nat.zero_shiftLeft]; decide
    · rw [e]; exact shl_lt hc

theorem fill_W {l : List Nat} {p : PV} {h : PHeap} (hl : ∀ j ∈ l, j < 9) (hl9 : l.length ≤ 9) (hp : IntSl .i64 h p (l.map fun k : Nat => (k : Int))) {m : Nat} (hm : m < 2 ^ 62) (hlf : 1000 < lf) (N : Nat) (hN : 1 ≤ N) :
    CL g lf N fn_spec_l5Fill [p, .int .i64 (m : Int)] h = some (.int .i64 ((fillN l m : Nat) : Int), h) := by
  obtain ⟨n, rfl⟩ : ∃ n, N = n + 1 := ⟨N - 1, by omega⟩
  have hlen := hp.len'
  rw [List.length_map] at hlen
  have : W (CL g lf (n + 1) fn_spec_l5Fill [p, .int .i64 (m : Int)] h) fun v h' => v = .int .i64 ((fillN l m : Nat) : Int) ∧ h' = h := by
    rw [spec_l5Fill.call_eq]
    unfold spec_l5Fill.main
    simp only [env_lf]
    refine loopW (fun u s => ∃ k w : Nat, s = spec_l5Fill.st0 p (.int .i64 (m : Int)) (.int .i64 (w : Int)) (.int .i64 (k : Int)) h ∧ k + u = l.length ∧ w < 2 ^ 9 ∧ w ||| fillN (l.drop k) (m >>> k) = fillN l m) ?_ lf l.length _ (by omega) ⟨0, 0, rfl, by omega, by decide, by rw [Nat.zero_or]; rfl⟩
    rintro n1 u s ⟨k, w, rfl, hku, hw, hf⟩ next
    rw [spec_l5Fill.body0_eq]
    unfold spec_l5Fill.body0
    simp only [env_load, env_bin, env_indexAddr, env_len]
    cases u with
    | zero =>
      rw [List.drop_eq_nil_of_le (by omega), fillN, Nat.or_zero] at hf
      repeat (first | with_reducible refine wF ?_ | with_reducible refine wrI ?_ | with_reducible refine wbd (by assumption) ?_ | with_reducible refine wlssF (by omega) ?_ | rw [kLoop_exit] | rw [spec_l5Fill.after0_se0_0_1_5_6_10])
      exact W.ret ⟨by rw [hf], rfl⟩
    | succ u =>
      have hk : k < l.length := by omega
      have hkm : k < (l.map fun k : Nat => (k : Int)).length := by rw [List.length_map]; exact hk
      have hd : l.drop k = l[k] :: l.drop (k + 1) := List.drop_eq_getElem_cons hk
      have hj9 := hl l[k] (List.getElem_mem hk)
      have hget : (l.map fun k : Nat => (k : Int))[k] = (l[k] : Int) := List.getElem_map ..
      have hsh : m >>> (k + 1) = m >>> k / 2 := Nat.shiftRight_succ m k
      rw [hd, fillN, ← hsh] at hf
      obtain ⟨j, hj⟩ : ∃ j, j = l[k] := ⟨_, rfl⟩
      rw [← hj] at hf hj9 hget
      obtain ⟨b, hbt⟩ : ∃ b, b = m >>> k % 2 := ⟨_, rfl⟩
      have hb1 : b ≤ 1 := by rw [hbt]; omega
      rw [← hbt] at hf
      have hsl : b <<< j < 2 ^ 9 := by
        have : b = 0 ∨ b = 1 := by omega
        rcases this with e | e
        · rw [e, Nat.zero_shiftLeft]; decide
        · rw [e]; exact shl_lt hj9
      have hor := Nat.or_lt_two_pow hw hsl
      repeat (first | with_reducible refine wT ?_ | with_reducible refine wbd (by assumption) ?_ | (rw [← hbt]) | (with_reducible refine wat hp hkm fun a hl => ?_) | with_reducible refine wrem2 ?_ | with_reducible refine wshr (by omega) ?_ | with_reducible refine wlssT (by omega) ?_)
      rw [hget]
      refine wshlN (by omega) (by omega) ?_
      repeat (first | with_reducible refine wadd1 (by omega) ?_ | with_reducible refine wor (by omega) (by omega) ?_)
      exact next _ _ (Nat.lt_succ_self u) ⟨k + 1, w ||| b <<< j, rfl, by omega, hor, by rw [Nat.or_assoc]; exact hf⟩
  obtain ⟨_, _, e, rfl, rfl⟩ := this
  exact e

theorem range_count_succ (p : Nat → Bool) (k : Nat) : (List.range (k + 1)).countP p = (List.range k).countP p + if p k = true then 1 else 0 := by
  rw [List.range_succ, List.countP_append, List.countP_singleton]

theorem specFillCount_calls {xs : List Int} {p : PV} {h : PHeap} (N : Nat) (hN : 6 ≤ N) (r c pl : Int) (hp : IntSl .i64 h p xs) (hl : xs.length ≤ 2 ^ 35) (hf : xs.length < lf) (hlf : 1000 < lf) :
    ∃ h', CL g lf N fn_spec_FillCount [.int .i64 r, .int .i64 c, p, .int .i64 pl] h = some (.int .i64 (countL r c xs pl), h') ∧ Keep h.length h h' := by
  obtain ⟨n, rfl⟩ : ∃ n, N = n + 1 := ⟨N - 1, by omega⟩
  have hpos := specPositionOk_N g lf n (by omega) r c hp (by omega) hf
  have hin1 : CL g lf n fn_spec_l1In [.int .i64 pl, .int .i64 1, .int .i64 2] h = some (.bool (playerB pl), h) := l1In_N g lf n (by omega) h pl 1 2
  have : W (CL g lf (n + 1) fn_spec_FillCount [.int .i64 r, .int .i64 c, p, .int .i64 pl] h) fun v h' => v = .int .i64 (countL r c xs pl) ∧ Keep h.length h h' := by
    rw [spec_FillCount.call_eq]
    unfold spec_FillCount.main
    simp only [env_C, env_lf, env_pick, env_un]
    cases hb : posB r c xs with
    | false =>
      rw [hb] at hpos
      repeat (first | with_reducible refine wT ?_ | with_reducible refine wg0 rfl ?_ | with_reducible refine wpT ?_ | with_reducible refine wnF ?_ | with_reducible refine wsm ?_ | with_reducible refine wrI ?_ | with_reducible refine wbd (by assumption) ?_ | dsimp only)
      exact W.ret ⟨by rw [countL_none (.inl hb)], Keep.refl _ _⟩
    | true =>
      rw [hb] at hpos
      cases hpl : playerB pl with
      | false =>
        rw [hpl] at hin1
        repeat (first | with_reducible refine wT ?_ | with_reducible refine wg1 rfl ?_ | with_reducible refine wpF ?_ | with_reducible refine wnT ?_ | with_reducible refine wnF ?_ | with_reducible refine wpv ?_ | with_reducible refine wsm ?_ | with_reducible refine wrI ?_ | with_reducible refine wbd (by assumption) ?_ | dsimp only)
        refine W.ret ⟨?_, Keep.refl _ _⟩
        unfold countL; rw [hpl, Bool.and_false]; rfl
      | true =>
        rw [hpl] at hin1
        obtain ⟨R, C, hS⟩ := sides_of hb
        obtain ⟨P, rfl, hP⟩ := player_of hpl
        obtain ⟨rfl, rfl, _, _, _, _, h9, hlen, _⟩ := id hS
        have hB := board_of_sides hS
        obtain ⟨pm, h1, e1, o1, k1⟩ := l2Masks_calls g lf hB n (by omega) (by omega) (h := h)
        have hp1 := hp.keep k1
        have e2 := l2Set_calls g lf (P : Int) hp1 (by omega) n (by omega) (by omega)
        have e3 := l2Set_calls g lf 0 hp1 (by omega) n (by omega) (by omega)
        obtain ⟨pf, h2, e4, o2, k2⟩ := l2List_calls g lf (set_lt9 hS 0) n (by omega) (by omega) (h := h1)
        rw [listN_cells] at o2
        have hs9 := set_lt9 hS (P : Int)
        obtain ⟨L, hL⟩ : ∃ L, L = cellsN (setL xs 0) := ⟨_, rfl⟩
        have hL9 : L.length ≤ 9 := by rw [hL]; exact cells_len9 _
        have hLl : ∀ j ∈ L, j < 9 := fun j hj => by rw [hL] at hj; exact cellsN_lt hj
        have hcnt := countL_eq hb hP
        rw [← hL] at hcnt o2
        have hpow : 2 ^ L.length ≤ 512 := Nat.pow_le_pow_right (n := 2) (by decide) hL9
        have hlenL := o2.int.len'
        rw [List.length_map] at hlenL
        have h1s : 1 <<< L.length = 2 ^ L.length := Nat.one_shiftLeft _
        have om := (o1.keep k2).int
        repeat (first | with_reducible refine wF ?_ | with_reducible refine wg1 rfl ?_ | with_reducible refine wpF ?_ | with_reducible refine wnT ?_ | with_reducible refine wpv ?_ | with_reducible refine wsm ?_ | with_reducible refine wbd (by assumption) ?_ | dsimp only)
        refine loopW (fun u s => ∃ number : Nat, s = spec_FillCount.st0 (.int .i64 (R : Int)) (.int .i64 (C : Int)) (.int .i64 (P : Int)) pm (.int .i64 (setL xs (P : Int) : Int)) pf (.int .i64 (((List.range number).countP fun m => joinsN R C P (setL xs (P : Int) ||| fillN L m) : Nat) : Int)) (.int .i64 (number : Int)) h2 ∧ number + u = 2 ^ L.length) ?_ lf (2 ^ L.length) _ (by omega) ⟨0, rfl, by omega⟩
        rintro n1 u s ⟨number, rfl, hnu⟩ next
        have hcb : (List.range number).countP (fun m => joinsN R C P (setL xs (P : Int) ||| fillN L m)) ≤ number := by
          have := List.countP_le_length (p := fun m => joinsN R C P (setL xs (P : Int) ||| fillN L m)) (l := List.range number)
          rw [List.length_range] at this; exact this
        rw [spec_FillCount.body0_eq]
        unfold spec_FillCount.body0
        simp only [env_C, env_bin, env_len]
        cases u with
        | zero =>
          have hn2 : number = 2 ^ L.length := by omega
          repeat (first | with_reducible refine wF ?_ | with_reducible refine wrI ?_ | with_reducible refine wbd (by assumption) ?_ | with_reducible refine wshl (by omega) ?_ | with_reducible refine wlssF (by omega) ?_ | rw [kLoop_exit] | rw [spec_FillCount.after0_se0_0_1_3_9_10_11_12_13_37])
          refine W.ret ⟨?_, k1.trans (k2.mono k1.1)⟩
          rw [hcnt, hn2, cnt_range]
        | succ u =>
          have e5 := fill_W g lf hLl hL9 o2.int (show number < 2 ^ 62 by omega) hlf n (by omega)
          have hfl := fillN_lt (m := number) hLl
          have hor := Nat.or_lt_two_pow hs9 hfl
          have e6 := l2Joins_calls g lf hB hP om hor n (by omega) hlf
          have hcs := range_count_succ (fun m => joinsN R C P (setL xs (P : Int) ||| fillN L m)) number
          cases hj : joinsN R C P (setL xs (P : Int) ||| fillN L number) with
          | true =>
            rw [hj] at e6 hcs
            rw [if_pos rfl] at hcs
            repeat (first | with_reducible refine wT ?_ | with_reducible refine wbd (by assumption) ?_ | with_reducible refine wadd1 (by omega) ?_ | with_reducible refine wshl (by omega) ?_ | with_reducible refine wor (by omega) (by omega) ?_ | with_reducible refine wlssT (by omega) ?_ | dsimp only)
            exact next _ _ (Nat.lt_succ_self u) ⟨number + 1, by rw [hcs], by omega⟩
          | false =>
            rw [hj] at e6 hcs
            rw [if_neg (by decide)] at hcs
            repeat (first | with_reducible refine wT ?_ | with_reducible refine wF ?_ | with_reducible refine wbd (by assumption) ?_ | with_reducible refine wadd1 (by omega) ?_ | with_reducible refine wshl (by omega) ?_ | with_reducible refine wor (by omega) (by omega) ?_ | with_reducible refine wlssT (by omega) ?_ | dsimp only)
            exact next _ _ (Nat.lt_succ_self u) ⟨number + 1, by rw [hcs]; rfl, by omega⟩
  obtain ⟨_, h', e, rfl, k⟩ := this
  exact ⟨h', e, k⟩

/-! ### what one cell decides -/
theorem piv_ops {R C P K : Nat} (hB : BoardOf R C) (hP : P = 1 ∨ P = 2) {pm : PV} {h : PHeap} (om : IntSl .i64 h pm (ints (masksN R C))) {s : Nat} (hs : s < 2 ^ 9) (hK : K < 9) (hlf : 1000 < lf) (N : Nat) (hN : 2 ≤ N) :
    CL g lf N fn_spec_l2Joins [.int .i64 (R : Int), .int .i64 (C : Int), pm, .int .i64 ((s ||| 1 <<< K : Nat) : Int), .int .i64 (P : Int)] h = some (.bool (joinsN R C P (s ||| 1 <<< K)), h) ∧
    CL g lf N fn_spec_l2Joins [.int .i64 (R : Int), .int .i64 (C : Int), pm, .int .i64 (s : Int), .int .i64 (P : Int)] h = some (.bool (joinsN R C P s), h) :=
  ⟨l2Joins_calls g lf hB hP om (with_lt hs hK) N hN hlf, l2Joins_calls g lf hB hP om hs N hN hlf⟩

theorem specPivotCount_calls {xs : List Int} {p : PV} {h : PHeap} (N : Nat) (hN : 6 ≤ N) (r c k : Int) (hp : IntSl .i64 h p xs) (hl : xs.length ≤ 2 ^ 35) (hf : xs.length < lf) (hlf : 1000 < lf) :
    ∃ h', CL g lf N fn_spec_PivotCount [.int .i64 r, .int .i64 c, p, .int .i64 k] h = some (.int .i64 (pivotL r c xs k), h') ∧ Keep h.length h h' := by
  obtain ⟨n, rfl⟩ : ∃ n, N = n + 1 := ⟨N - 1, by omega⟩
  have hpos := specPositionOk_N g lf n (by omega) r c hp (by omega) hf
  have : W (CL g lf (n + 1) fn_spec_PivotCount [.int .i64 r, .int .i64 c, p, .int .i64 k] h) fun v h' => v = .int .i64 (pivotL r c xs k) ∧ Keep h.length h h' := by
    rw [spec_PivotCount.call_eq]
    unfold spec_PivotCount.main
    simp only [env_C, env_lf, env_pick, env_load, env_bin, env_un, env_indexAddr, env_len]
    cases hb : posB r c xs with
    | false =>
      rw [hb] at hpos
      have hpv : pivotL r c xs k = -1 := by unfold pivotL freeAt; rw [hb]; rfl
      rw [hpv]
      repeat (first | with_reducible refine wT ?_ | with_reducible refine wg0 rfl ?_ | with_reducible refine wpT ?_ | with_reducible refine wnF ?_ | with_reducible refine wsm ?_ | with_reducible refine wrI ?_ | with_reducible refine wbd (by assumption) ?_ | dsimp only)
      exact W.ret ⟨rfl, Keep.refl _ _⟩
    | true =>
    rw [hb] at hpos
    obtain ⟨R, C, hS⟩ := sides_of hb
    obtain ⟨rfl, rfl, b1, _, b3, _, h9, hlen, _⟩ := id hS
    have hB := board_of_sides hS
    have hpos1 : 1 ≤ xs.length := by rw [hlen]; exact Nat.mul_pos b1 b3
    have hin2 : CL g lf n fn_spec_l1In [.int .i64 k, .int .i64 0, .int .i64 ((xs.length - 1 : Nat) : Int)] h = some (.bool (decide (0 ≤ k ∧ k ≤ ((xs.length - 1 : Nat) : Int))), h) := l1In_N g lf n (by omega) h k 0 _
    have hce : decide (0 ≤ k ∧ k ≤ ((xs.length - 1 : Nat) : Int)) = decide (0 ≤ k ∧ k < (xs.length : Int)) := decide_eq_decide.2 (by omega)
    rw [hce] at hin2
    cases hk : decide (0 ≤ k ∧ k < (xs.length : Int)) with
    | false =>
      rw [hk] at hin2
      have hpv : pivotL (R : Int) (C : Int) xs k = -1 := by unfold pivotL freeAt; rw [hk]; simp
      rw [hpv]
      repeat (first | with_reducible refine wT ?_ | with_reducible refine wg1 rfl ?_ | with_reducible refine wg0 rfl ?_ | with_reducible refine wpT ?_ | with_reducible refine wpF ?_ | with_reducible refine wnT ?_ | with_reducible refine wnF ?_ | with_reducible refine wpv ?_ | with_reducible refine wsm ?_ | with_reducible refine wrI ?_ | with_reducible refine wbd (by assumption) ?_ | with_reducible refine wlen (by assumption) ?_ | with_reducible refine wsub1 (by omega) (by omega) ?_ | dsimp only)
      exact W.ret ⟨rfl, Keep.refl _ _⟩
    | true =>
      rw [hk] at hin2
      have hkb := of_decide_eq_true hk
      obtain ⟨K, rfl⟩ := Int.eq_ofNat_of_zero_le hkb.1
      have hK : K < xs.length := by omega
      have hK9 : K < 9 := by omega
      by_cases hx : xs[K] = 0
      · have hk0 : xs[K]? = some 0 := by rw [List.getElem?_eq_getElem hK, hx]
        obtain ⟨pm, h1, e1, o1, k1⟩ := l2Masks_calls g lf hB n (by omega) (by omega) (h := h)
        have hp1 := hp.keep k1
        have e2 := l2Set_calls g lf 1 hp1 (by omega) n (by omega) (by omega)
        have e3 := l2Set_calls g lf 0 hp1 (by omega) n (by omega) (by omega)
        obtain ⟨pf, h2, e4, o2, k2⟩ := l2List_calls g lf (without_lt (c := K) (set_lt9 hS 0)) n (by omega) (by omega) (h := h1)
        rw [listN_cells] at o2
        have hs9 := set_lt9 hS 1
        have hs0 := set_lt9 hS 0
        have hslK := shl_lt hK9
        obtain ⟨L, hL⟩ : ∃ L, L = cellsN (without (setL xs 0) K) := ⟨_, rfl⟩
        have hL9 : L.length ≤ 9 := by rw [hL]; exact cells_len9 _
        have hLl : ∀ j ∈ L, j < 9 := fun j hj => by rw [hL] at hj; exact cellsN_lt hj
        repeat (first | with_reducible refine wF ?_ | with_reducible refine wg1 rfl ?_ | with_reducible refine wpF ?_ | with_reducible refine wnT ?_ | with_reducible refine wpv ?_ | with_reducible refine wsm ?_ | with_reducible refine wbd (by assumption) ?_ | with_reducible refine wlen (by assumption) ?_ | (with_reducible refine wat hp hK fun a hl => ?_) | with_reducible refine wsub1 (by omega) (by omega) ?_ | with_reducible refine wshl (by omega) ?_ | with_reducible refine wandNot (by omega) (by omega) ?_ | with_reducible refine wneqF (by omega) ?_ | dsimp only)
        obtain ⟨T, hT⟩ : ∃ T, T = setL xs 1 := ⟨_, rfl⟩
        have hpv := pivotL_eq hb hk0
        rw [← hL] at hpv o2
        rw [← hT] at hpv e2 hs9 ⊢
        have hpow : 2 ^ L.length ≤ 512 := Nat.pow_le_pow_right (n := 2) (by decide) hL9
        have hlenL := o2.int.len'
        rw [List.length_map] at hlenL
        have h1s : 1 <<< L.length = 2 ^ L.length := Nat.one_shiftLeft _
        have om := (o1.keep k2).int
        refine wbd e4 ?_
        refine loopW (fun u s => ∃ number : Nat, s = spec_PivotCount.st0 (.int .i64 (R : Int)) (.int .i64 (C : Int)) (.int .i64 (K : Int)) pm (.int .i64 (T : Int)) pf (.int .i64 (((List.range number).countP fun m => pivJ (joinsN R C 1) K (T ||| fillN L m) : Nat) : Int)) (.int .i64 (number : Int)) h2 ∧ number + u = 2 ^ L.length) ?_ lf (2 ^ L.length) _ (by omega) ⟨0, rfl, by omega⟩
        rintro n1 u s ⟨number, rfl, hnu⟩ next
        have hcb : (List.range number).countP (fun m => pivJ (joinsN R C 1) K (T ||| fillN L m)) ≤ number := by
          have := List.countP_le_length (p := fun m => pivJ (joinsN R C 1) K (T ||| fillN L m)) (l := List.range number)
          rw [List.length_range] at this; exact this
        rw [spec_PivotCount.body0_eq]
        unfold spec_PivotCount.body0
        simp only [env_C, env_pick, env_bin, env_un, env_len]
        cases u with
        | zero =>
          have hn2 : number = 2 ^ L.length := by omega
          repeat (first | with_reducible refine wF ?_ | with_reducible refine wrI ?_ | with_reducible refine wbd (by assumption) ?_ | with_reducible refine wshl (by omega) ?_ | with_reducible refine wlssF (by omega) ?_ | rw [kLoop_exit] | rw [spec_PivotCount.after0_se0_0_1_3_9_10_11_12_13_50])
          refine W.ret ⟨?_, k1.trans (k2.mono k1.1)⟩
          rw [hpv, hn2, cnt_range]
        | succ u =>
          have e5 := fill_W g lf hLl hL9 o2.int (show number < 2 ^ 62 by omega) hlf n (by omega)
          have hfl := fillN_lt (m := number) hLl
          have hor := Nat.or_lt_two_pow hs9 hfl
          have hsl := shl_lt hK9
          obtain ⟨e6, e7⟩ := piv_ops g lf hB (P := 1) (.inl rfl) om hor hK9 hlf n (by omega)
          have hcs := range_count_succ (fun m => pivJ (joinsN R C 1) K (T ||| fillN L m)) number
          have hor2 := Nat.or_lt_two_pow hor hsl
          have hpd : pivJ (joinsN R C 1) K (T ||| fillN L number) = (joinsN R C 1 (T ||| fillN L number ||| 1 <<< K) && !joinsN R C 1 (T ||| fillN L number)) := rfl
          rw [hpd] at hcs
          cases hj : joinsN R C 1 (T ||| fillN L number ||| 1 <<< K) with
          | false =>
            rw [hj] at e6 hcs
            rw [Bool.false_and, if_neg (by decide)] at hcs
            repeat (first | with_reducible refine wT ?_ | with_reducible refine wF ?_ | with_reducible refine wg0 rfl ?_ | with_reducible refine wpF ?_ | with_reducible refine wsm ?_ | with_reducible refine wbd (by assumption) ?_ | (refine wbd e6 ?_) | with_reducible refine wadd1 (by omega) ?_ | with_reducible refine wshl (by omega) ?_ | with_reducible refine wor (by omega) (by omega) ?_ | with_reducible refine wlssT (by omega) ?_ | dsimp only)
            exact next _ _ (Nat.lt_succ_self u) ⟨number + 1, by rw [hcs]; rfl, by omega⟩
          | true =>
            rw [hj, Bool.true_and] at hcs
            rw [hj] at e6
            cases hj2 : joinsN R C 1 (T ||| fillN L number) with
            | false =>
              rw [hj2] at e7 hcs
              rw [Bool.not_false, if_pos rfl] at hcs
              repeat (first | with_reducible refine wT ?_ | with_reducible refine wg1 rfl ?_ | with_reducible refine wpT ?_ | with_reducible refine wnF ?_ | with_reducible refine wpv ?_ | with_reducible refine wsm ?_ | with_reducible refine wbd (by assumption) ?_ | (refine wbd e6 ?_) | (refine wbd e7 ?_) | with_reducible refine wadd1 (by omega) ?_ | with_reducible refine wshl (by omega) ?_ | with_reducible refine wor (by omega) (by omega) ?_ | with_reducible refine wlssT (by omega) ?_ | dsimp only)
              exact next _ _ (Nat.lt_succ_self u) ⟨number + 1, by rw [hcs], by omega⟩
            | true =>
              rw [hj2] at e7 hcs
              rw [Bool.not_true, if_neg (by decide)] at hcs
              repeat (first | with_reducible refine wT ?_ | with_reducible refine wF ?_ | with_reducible refine wg1 rfl ?_ | with_reducible refine wpT ?_ | with_reducible refine wnT ?_ | with_reducible refine wpv ?_ | with_reducible refine wsm ?_ | with_reducible refine wbd (by assumption) ?_ | (refine wbd e6 ?_) | (refine wbd e7 ?_) | with_reducible refine wadd1 (by omega) ?_ | with_reducible refine wshl (by omega) ?_ | with_reducible refine wor (by omega) (by omega) ?_ | with_reducible refine wlssT (by omega) ?_ | dsimp only)
              exact next _ _ (Nat.lt_succ_self u) ⟨number + 1, by rw [hcs]; rfl, by omega⟩
      · have hpv : pivotL (R : Int) (C : Int) xs (K : Int) = -1 := by
          unfold pivotL
          rw [if_neg]
          intro hh
          have := (freeAt_iff.1 hh).2
          rw [List.getElem?_eq_getElem hK] at this
          exact hx (Option.some.inj this)
        rw [hpv]
        repeat (first | with_reducible refine wT ?_ | with_reducible refine wg1 rfl ?_ | with_reducible refine wpF ?_ | with_reducible refine wnT ?_ | with_reducible refine wpv ?_ | with_reducible refine wsm ?_ | with_reducible refine wrI ?_ | with_reducible refine wbd (by assumption) ?_ | with_reducible refine wlen (by assumption) ?_ | (with_reducible refine wat hp hK fun a hl => ?_) | with_reducible refine wsub1 (by omega) (by omega) ?_ | with_reducible refine wneqT (by omega) ?_ | dsimp only)
        exact W.ret ⟨rfl, Keep.refl _ _⟩
  obtain ⟨_, h', e, rfl, k⟩ := this
  exact ⟨h', e, k⟩

theorem specMattersAt_calls {xs : List Int} {p : PV} {h : PHeap} (N : Nat) (hN : 6 ≤ N) (r c k : Int) (hp : IntSl .i64 h p xs) (hl : xs.length ≤ 2 ^ 35) (hf : xs.length < lf) (hlf : 1000 < lf) :
    ∃ h', CL g lf N fn_spec_MattersAt [.int .i64 r, .int .i64 c, p, .int .i64 k] h = some (.bool (mattersL r c xs k), h') ∧ Keep h.length h h' := by
  obtain ⟨n, rfl⟩ : ∃ n, N = n + 1 := ⟨N - 1, by omega⟩
  have hpos := specPositionOk_N g lf n (by omega) r c hp (by omega) hf
  have : W (CL g lf (n + 1) fn_spec_MattersAt [.int .i64 r, .int .i64 c, p, .int .i64 k] h) fun v h' => v = .bool (mattersL r c xs k) ∧ Keep h.length h h' := by
    unfold mattersL
    rw [spec_MattersAt.call_eq]
    unfold spec_MattersAt.main
    simp only [env_C, env_lf, env_pick, env_load, env_bin, env_un, env_indexAddr, env_len]
    cases hb : posB r c xs with
    | false =>
      rw [hb] at hpos
      have hpv : pivotL r c xs k = -1 := by unfold pivotL freeAt; rw [hb]; rfl
      rw [hpv]
      repeat (first | with_reducible refine wT ?_ | with_reducible refine wg0 rfl ?_ | with_reducible refine wpT ?_ | with_reducible refine wnF ?_ | with_reducible refine wsm ?_ | with_reducible refine wrB ?_ | with_reducible refine wbd (by assumption) ?_ | dsimp only)
      exact W.ret ⟨rfl, Keep.refl _ _⟩
    | true =>
    rw [hb] at hpos
    obtain ⟨R, C, hS⟩ := sides_of hb
    obtain ⟨rfl, rfl, b1, _, b3, _, h9, hlen, _⟩ := id hS
    have hB := board_of_sides hS
    have hpos1 : 1 ≤ xs.length := by rw [hlen]; exact Nat.mul_pos b1 b3
    have hin2 : CL g lf n fn_spec_l1In [.int .i64 k, .int .i64 0, .int .i64 ((xs.length - 1 : Nat) : Int)] h = some (.bool (decide (0 ≤ k ∧ k ≤ ((xs.length - 1 : Nat) : Int))), h) := l1In_N g lf n (by omega) h k 0 _
    have hce : decide (0 ≤ k ∧ k ≤ ((xs.length - 1 : Nat) : Int)) = decide (0 ≤ k ∧ k < (xs.length : Int)) := decide_eq_decide.2 (by omega)
    rw [hce] at hin2
    cases hk : decide (0 ≤ k ∧ k < (xs.length : Int)) with
    | false =>
      rw [hk] at hin2
      have hpv : pivotL (R : Int) (C : Int) xs k = -1 := by unfold pivotL freeAt; rw [hk]; simp
      rw [hpv]
      repeat (first | with_reducible refine wT ?_ | with_reducible refine wg1 rfl ?_ | with_reducible refine wg0 rfl ?_ | with_reducible refine wpT ?_ | with_reducible refine wpF ?_ | with_reducible refine wnT ?_ | with_reducible refine wnF ?_ | with_reducible refine wpv ?_ | with_reducible refine wsm ?_ | with_reducible refine wrB ?_ | with_reducible refine wbd (by assumption) ?_ | with_reducible refine wlen (by assumption) ?_ | with_reducible refine wsub1 (by omega) (by omega) ?_ | dsimp only)
      exact W.ret ⟨rfl, Keep.refl _ _⟩
    | true =>
      rw [hk] at hin2
      have hkb := of_decide_eq_true hk
      obtain ⟨K, rfl⟩ := Int.eq_ofNat_of_zero_le hkb.1
      have hK : K < xs.length := by omega
      have hK9 : K < 9 := by omega
      by_cases hx : xs[K] = 0
      · have hk0 : xs[K]? = some 0 := by rw [List.getElem?_eq_getElem hK, hx]
        obtain ⟨pm, h1, e1, o1, k1⟩ := l2Masks_calls g lf hB n (by omega) (by omega) (h := h)
        have hp1 := hp.keep k1
        have e2 := l2Set_calls g lf 1 hp1 (by omega) n (by omega) (by omega)
        have e3 := l2Set_calls g lf 0 hp1 (by omega) n (by omega) (by omega)
        obtain ⟨pf, h2, e4, o2, k2⟩ := l2List_calls g lf (without_lt (c := K) (set_lt9 hS 0)) n (by omega) (by omega) (h := h1)
        rw [listN_cells] at o2
        have hs9 := set_lt9 hS 1
        have hs0 := set_lt9 hS 0
        have hslK := shl_lt hK9
        obtain ⟨L, hL⟩ : ∃ L, L = cellsN (without (setL xs 0) K) := ⟨_, rfl⟩
        have hL9 : L.length ≤ 9 := by rw [hL]; exact cells_len9 _
        have hLl : ∀ j ∈ L, j < 9 := fun j hj => by rw [hL] at hj; exact cellsN_lt hj
        repeat (first | with_reducible refine wF ?_ | with_reducible refine wg1 rfl ?_ | with_reducible refine wpF ?_ | with_reducible refine wnT ?_ | with_reducible refine wpv ?_ | with_reducible refine wsm ?_ | with_reducible refine wbd (by assumption) ?_ | with_reducible refine wlen (by assumption) ?_ | (with_reducible refine wat hp hK fun a hl => ?_) | with_reducible refine wsub1 (by omega) (by omega) ?_ | with_reducible refine wshl (by omega) ?_ | with_reducible refine wandNot (by omega) (by omega) ?_ | with_reducible refine wneqF (by omega) ?_ | dsimp only)
        obtain ⟨T, hT⟩ : ∃ T, T = setL xs 1 := ⟨_, rfl⟩
        have hpv := pivotL_eq hb hk0
        rw [← hL] at hpv o2
        rw [← hT] at hpv e2 hs9 ⊢
        have hpow : 2 ^ L.length ≤ 512 := Nat.pow_le_pow_right (n := 2) (by decide) hL9
        have hlenL := o2.int.len'
        rw [List.length_map] at hlenL
        have h1s : 1 <<< L.length = 2 ^ L.length := Nat.one_shiftLeft _
        have om := (o1.keep k2).int
        refine wbd e4 ?_
        refine loopW (fun u s => ∃ number : Nat, s = spec_MattersAt.st0 (.int .i64 (R : Int)) (.int .i64 (C : Int)) (.int .i64 (K : Int)) pm (.int .i64 (T : Int)) pf (.int .i64 (number : Int)) h2 ∧ number + u = 2 ^ L.length ∧ ∀ m, m < number → pivJ (joinsN R C 1) K (T ||| fillN L m) = false) ?_ lf (2 ^ L.length) _ (by omega) ⟨0, rfl, by omega, fun m hm => by omega⟩
        rintro n1 u s ⟨number, rfl, hnu, hno⟩ next
        rw [spec_MattersAt.body0_eq]
        unfold spec_MattersAt.body0
        simp only [env_C, env_pick, env_bin, env_un, env_len]
        cases u with
        | zero =>
          have hn2 : number = 2 ^ L.length := by omega
          repeat (first | with_reducible refine wF ?_ | with_reducible refine wrB ?_ | with_reducible refine wbd (by assumption) ?_ | with_reducible refine wshl (by omega) ?_ | with_reducible refine wlssF (by omega) ?_ | rw [kLoop_exit] | rw [spec_MattersAt.after0_se0_0_1_3_9_10_11_12_49])
          refine W.ret ⟨?_, k1.trans (k2.mono k1.1)⟩
          have hz : ¬ 0 < cntN (pivJ (joinsN R C 1) K) T L := fun hh => by
            obtain ⟨m, hm, hJ⟩ := cnt_pos.1 hh
            rw [hno m (by omega)] at hJ; cases hJ
          rw [hpv, decide_eq_false (by omega)]
        | succ u =>
          have e5 := fill_W g lf hLl hL9 o2.int (show number < 2 ^ 62 by omega) hlf n (by omega)
          have hfl := fillN_lt (m := number) hLl
          have hor := Nat.or_lt_two_pow hs9 hfl
          have hsl := shl_lt hK9
          obtain ⟨e6, e7⟩ := piv_ops g lf hB (P := 1) (.inl rfl) om hor hK9 hlf n (by omega)
          have hor2 := Nat.or_lt_two_pow hor hsl
          have hpd : pivJ (joinsN R C 1) K (T ||| fillN L number) = (joinsN R C 1 (T ||| fillN L number ||| 1 <<< K) && !joinsN R C 1 (T ||| fillN L number)) := rfl
          have hnext : pivJ (joinsN R C 1) K (T ||| fillN L number) = false → ∀ m, m < number + 1 → pivJ (joinsN R C 1) K (T ||| fillN L m) = false := fun hh m hm => by
            by_cases e : m = number
            · rw [e]; exact hh
            · exact hno m (by omega)
          cases hj : joinsN R C 1 (T ||| fillN L number ||| 1 <<< K) with
          | false =>
            rw [hj] at e6 hpd
            repeat (first | with_reducible refine wT ?_ | with_reducible refine wF ?_ | with_reducible refine wg0 rfl ?_ | with_reducible refine wpF ?_ | with_reducible refine wsm ?_ | with_reducible refine wbd (by assumption) ?_ | (refine wbd e6 ?_) | with_reducible refine wadd1 (by omega) ?_ | with_reducible refine wshl (by omega) ?_ | with_reducible refine wor (by omega) (by omega) ?_ | with_reducible refine wlssT (by omega) ?_ | dsimp only)
            exact next _ _ (Nat.lt_succ_self u) ⟨number + 1, rfl, by omega, hnext hpd⟩
          | true =>
            rw [hj, Bool.true_and] at hpd
            rw [hj] at e6
            cases hj2 : joinsN R C 1 (T ||| fillN L number) with
            | false =>
              rw [hj2] at e7 hpd
              repeat (first | with_reducible refine wT ?_ | with_reducible refine wg1 rfl ?_ | with_reducible refine wpT ?_ | with_reducible refine wnF ?_ | with_reducible refine wpv ?_ | with_reducible refine wsm ?_ | with_reducible refine wrB ?_ | with_reducible refine wbd (by assumption) ?_ | (refine wbd e6 ?_) | (refine wbd e7 ?_) | (rw [spec_MattersAt.K0_ret]) | (rw [spec_MattersAt.top_sr_8]) | with_reducible refine wshl (by omega) ?_ | with_reducible refine wor (by omega) (by omega) ?_ | with_reducible refine wlssT (by omega) ?_ | rw [kLoop_ret] | dsimp only)
              refine W.ret ⟨?_, k1.trans (k2.mono k1.1)⟩
              have := cnt_pos.2 ⟨number, by omega, hpd⟩
              rw [hpv, decide_eq_true (by omega)]
            | true =>
              rw [hj2] at e7 hpd
              repeat (first | with_reducible refine wT ?_ | with_reducible refine wF ?_ | with_reducible refine wg1 rfl ?_ | with_reducible refine wpT ?_ | with_reducible refine wnT ?_ | with_reducible refine wpv ?_ | with_reducible refine wsm ?_ | with_reducible refine wbd (by assumption) ?_ | (refine wbd e6 ?_) | (refine wbd e7 ?_) | with_reducible refine wadd1 (by omega) ?_ | with_reducible refine wshl (by omega) ?_ | with_reducible refine wor (by omega) (by omega) ?_ | with_reducible refine wlssT (by omega) ?_ | dsimp only)
              exact next _ _ (Nat.lt_succ_self u) ⟨number + 1, rfl, by omega, hnext hpd⟩
      · have hpv : pivotL (R : Int) (C : Int) xs (K : Int) = -1 := by
          unfold pivotL
          rw [if_neg]
          intro hh
          have := (freeAt_iff.1 hh).2
          rw [List.getElem?_eq_getElem hK] at this
          exact hx (Option.some.inj this)
        rw [hpv]
        repeat (first | with_reducible refine wT ?_ | with_reducible refine wg1 rfl ?_ | with_reducible refine wpF ?_ | with_reducible refine wnT ?_ | with_reducible refine wpv ?_ | with_reducible refine wsm ?_ | with_reducible refine wrB ?_ | with_reducible refine wbd (by assumption) ?_ | with_reducible refine wlen (by assumption) ?_ | (with_reducible refine wat hp hK fun a hl => ?_) | with_reducible refine wsub1 (by omega) (by omega) ?_ | with_reducible refine wneqT (by omega) ?_ | dsimp only)
        exact W.ret ⟨rfl, Keep.refl _ _⟩
  obtain ⟨_, h', e, rfl, k⟩ := this
  exact ⟨h', e, k⟩

def deadFrom (r c : Int) (xs : List Int) (k m : Nat) : List Int := ((List.range' k m).filter (deadB r c xs)).map fun k : Nat => (k : Int)
theorem deadFrom_all (r c : Int) (xs : List Int) : deadFrom r c xs 0 xs.length = deadL r c xs := by unfold deadFrom deadL; rw [List.range_eq_range']
theorem deadFrom_succ (r c : Int) (xs : List Int) (k m : Nat) : deadFrom r c xs k (m + 1) = if deadB r c xs k = true then (k : Int) :: deadFrom r c xs (k + 1) m else deadFrom r c xs (k + 1) m := by
  unfold deadFrom
  rw [List.range'_succ, List.filter_cons]
  split <;> rfl

theorem specDeadCells_calls {xs : List Int} {p : PV} {h : PHeap} (N : Nat) (hN : 7 ≤ N) (r c : Int) (hp : IntSl .i64 h p xs) (hl : xs.length ≤ 2 ^ 35) (hf : xs.length < lf) (hlf : 1000 < lf) :
    ∃ q h', CL g lf N fn_spec_DeadCells [.int .i64 r, .int .i64 c, p] h = some (q, h') ∧ OwnSl h.length h' q (deadL r c xs) ∧ Keep h.length h h' := by
  obtain ⟨n, rfl⟩ : ∃ n, N = n + 1 := ⟨N - 1, by omega⟩
  suffices this : W (CL g lf (n + 1) fn_spec_DeadCells [.int .i64 r, .int .i64 c, p] h) fun q h' => OwnSl h.length h' q (deadL r c xs) ∧ Keep h.length h h' by
    obtain ⟨q, h', e, o, k⟩ := this
    exact ⟨q, h', e, o, k⟩
  rw [spec_DeadCells.call_eq]
  unfold spec_DeadCells.main
  simp only [env_lf, env_buildSlice]
  refine wempty fun q h1 o1 k1 => ?_
  refine loopW (fun m s => ∃ (k : Nat) (ys : List Int) (q : PV) (h2 : PHeap), s = spec_DeadCells.st0 (.int .i64 r) (.int .i64 c) p q (.int .i64 (k : Int)) h2 ∧ k + m = xs.length ∧ ys.length ≤ k ∧ ys ++ deadFrom r c xs k m = deadL r c xs ∧ OwnSl h.length h2 q ys ∧ Keep h.length h h2) ?_ lf xs.length _ hf ⟨0, [], q, h1, rfl, by omega, Nat.le_refl _, deadFrom_all r c xs, o1, k1⟩
  rintro n1 m s ⟨k, ys, q, h2, rfl, hkm, hy, hL, o2, k2⟩ next
  have hp2 := hp.keep k2
  have hpos := specPositionOk_N g lf n (by omega) r c hp2 (by omega) hf
  rw [spec_DeadCells.body0_eq]
  unfold spec_DeadCells.body0
  simp only [env_C, env_pick, env_buildSlice, env_load, env_bin, env_un, env_indexAddr, env_len, env_append]
  cases m with
  | zero =>
    repeat (first | with_reducible refine wF ?_ | with_reducible refine wg0 rfl ?_ | with_reducible refine wpF ?_ | with_reducible refine wsm ?_ | with_reducible refine wlen (by assumption) ?_ | with_reducible refine wlssF (by omega) ?_ | with_reducible refine wresO (by assumption) ?_ | rw [kLoop_exit] | rw [spec_DeadCells.after0_se0_0_1_2_7_8_19] | dsimp only)
    have : deadFrom r c xs k 0 = [] := rfl
    rw [this, List.append_nil] at hL
    exact W.ret ⟨hL ▸ o2, k2⟩
  | succ m =>
    have hk : k < xs.length := by omega
    cases hb : posB r c xs with
    | false =>
      rw [hb] at hpos
      repeat (first | with_reducible refine wF ?_ | with_reducible refine wg1 rfl ?_ | with_reducible refine wpT ?_ | with_reducible refine wsm ?_ | with_reducible refine wbd (by assumption) ?_ | with_reducible refine wlen (by assumption) ?_ | with_reducible refine wlssT (by omega) ?_ | with_reducible refine wresO (by assumption) ?_ | rw [kLoop_exit] | rw [spec_DeadCells.after0_se0_0_1_2_7_8_19] | dsimp only)
      have hnil : deadFrom r c xs k (m + 1) = [] := by
        unfold deadFrom
        rw [List.filter_eq_nil_iff.2 fun j _ => by unfold deadB freeAt; rw [hb]; simp]; rfl
      rw [hnil, List.append_nil] at hL
      exact W.ret ⟨hL ▸ o2, k2⟩
    | true =>
      rw [hb] at hpos
      rw [deadFrom_succ] at hL
      obtain ⟨h3, e3, k3⟩ := specMattersAt_calls g lf n (by omega) r c (k : Int) hp2 hl hf hlf
      have kk := k2.trans (k3.mono k2.1)
      repeat (first | with_reducible refine wT ?_ | with_reducible refine wg1 rfl ?_ | with_reducible refine wpT ?_ | with_reducible refine wsm ?_ | with_reducible refine wbd (by assumption) ?_ | with_reducible refine wlen (by assumption) ?_ | (with_reducible refine wat hp2 hk fun a hl => ?_) | with_reducible refine wlssT (by omega) ?_ | dsimp only)
      refine weql (fun e => ?_) (fun e => ?_)
      · have hfr : freeAt r c xs (k : Int) = true := freeAt_iff.2 ⟨hb, by rw [List.getElem?_eq_getElem hk, e]⟩
        have hd : deadB r c xs k = !mattersL r c xs (k : Int) := by unfold deadB; rw [hfr, Bool.true_and]
        rw [hd] at hL
        cases hm : mattersL r c xs (k : Int) with
        | true =>
          rw [hm] at e3 hL
          rw [Bool.not_true, if_neg (by decide)] at hL
          repeat (first | with_reducible refine wF ?_ | with_reducible refine wg1 rfl ?_ | with_reducible refine wpT ?_ | with_reducible refine wnT ?_ | with_reducible refine wpv ?_ | with_reducible refine wsm ?_ | with_reducible refine wbd (by assumption) ?_ | with_reducible refine wadd1 (by omega) ?_ | dsimp only)
          exact next _ _ (Nat.lt_succ_self m) ⟨k + 1, ys, q, h3, rfl, by omega, by omega, hL, o2.keep k3, kk⟩
        | false =>
          rw [hm] at e3 hL
          rw [Bool.not_false, if_pos rfl] at hL
          repeat (first | with_reducible refine wT ?_ | with_reducible refine wg1 rfl ?_ | with_reducible refine wpT ?_ | with_reducible refine wnF ?_ | with_reducible refine wpv ?_ | with_reducible refine wsm ?_ | with_reducible refine wbd (by assumption) ?_ | (refine wap (o2.keep k3) kk.1 (by omega) fun p' h6 o6 k6 => ?_) | with_reducible refine wadd1 (by omega) ?_ | dsimp only)
          exact next _ _ (Nat.lt_succ_self m) ⟨k + 1, ys ++ [(k : Int)], p', h6, rfl, by omega, by simp; omega, by rw [List.append_assoc]; exact hL, o6, kk.trans k6⟩
      · have hfr : freeAt r c xs (k : Int) = false := by
          cases e2 : freeAt r c xs (k : Int) with
          | false => rfl
          | true =>
            have := (freeAt_iff.1 e2).2
            rw [List.getElem?_eq_getElem hk] at this
            exact (e (Option.some.inj this)).elim
        have hd : deadB r c xs k = false := by unfold deadB; rw [hfr, Bool.false_and]
        rw [hd, if_neg (by decide)] at hL
        repeat (first | with_reducible refine wF ?_ | with_reducible refine wg0 rfl ?_ | with_reducible refine wpF ?_ | with_reducible refine wsm ?_ | with_reducible refine wadd1 (by omega) ?_ | dsimp only)
        exact next _ _ (Nat.lt_succ_self m) ⟨k + 1, ys, q, h2, rfl, by omega, by omega, hL, o2, k2⟩

end Go.Proofs.YtfgjbfaapbhppaaDoor

/- The laws of chapter 4 over what the program's functions are asked to compute. -/
namespace Go.Proofs.YtfgjbfaapbhppaaDoor
open Go Go.Ip G

theorem pairFillN_length (R C ch : Nat) : (pairFillN R C ch).length = R * C := by unfold pairFillN; rw [pfF_length]; simp
theorem pairFillL_length {r c ch : Int} : (pairFillL r c ch).length ≤ 9 := by
  unfold pairFillL
  split
  · rename_i h
    rw [Bool.and_eq_true, Bool.and_eq_true] at h
    obtain ⟨R, C, rfl, rfl, hB⟩ := boardB_of h.1.1
    show (pairFillN R C _).length ≤ 9
    rw [pairFillN_length]; exact hB.2.2.2.2
  · exact Nat.zero_le _
theorem openL_length {r c pl : Int} : (openL r c pl).length ≤ 9 := by
  unfold openL
  split
  · rename_i h
    rw [Bool.and_eq_true] at h
    obtain ⟨R, C, rfl, rfl, hB⟩ := boardB_of h.1
    have := winCellsL_length (R : Int) (C : Int) (freeL R C) pl
    have e : (freeL R C).length = R * C := by simp [freeL]
    have := hB.2.2.2.2
    show (winCellsL (R : Int) (C : Int) (freeL R C) pl).length ≤ 9
    omega
  · exact Nat.zero_le _
/-- What is told of a filling of pairs. -/
theorem fill_facts {R C : Nat} (hB : BoardOf R C) (h : R < C) (ch : Nat) : posB (R : Int) (C : Int) (pairFillN R C ch) = true ∧ (pairFillN R C ch).count 0 = 0 ∧ joinsL (R : Int) (C : Int) (pairFillN R C ch) 1 = true ∧ joinsL (R : Int) (C : Int) (pairFillN R C ch) 2 = false := by
  have hf := fill_ok hB h ch
  unfold fillOkB at hf
  simp only [Bool.and_eq_true, decide_eq_true_eq, List.all_eq_true, Bool.or_eq_true] at hf
  obtain ⟨⟨hlen, hall⟩, hj⟩ := hf
  have hfp := free_pos hB
  have hb : posB (R : Int) (C : Int) (pairFillN R C ch) = true := by
    unfold posB at hfp ⊢
    simp only [Bool.and_eq_true, decide_eq_true_eq] at hfp ⊢
    refine ⟨⟨hfp.1.1, by rw [hlen, Int.natCast_mul]⟩, ?_⟩
    rw [List.all_eq_true]
    intro x hx
    rcases hall x hx with rfl | rfl <;> rfl
  have hS := sides_pos hb
  have h1 : joinsL (R : Int) (C : Int) (pairFillN R C ch) 1 = true := by rw [joins_one hb]; exact hj
  refine ⟨hb, ?_, h1, ?_⟩
  · rw [List.count_eq_zero]
    intro hx
    rcases hall 0 hx with e | e <;> cases e
  · rw [joins_two hb]
    exact (pos_sets hS).both (board_of_sides hS) hj

variable (g : Nat → PV) (lf n : Nat)

/-! ### the exact laws -/
/-- Of two functions that make one list of numbers. -/
theorem exact_chain4 {L : List Int} {h : PHeap} (N : Nat) (hN : 1 ≤ N) (fS fI : PHeap → Res)
    (hS : ∀ hh, Keep h.length h hh → ∃ w h', fS hh = some (w, h') ∧ OwnSl hh.length h' w L ∧ Keep hh.length hh h')
    (hI : ∀ hh, Keep h.length h hh → ∃ w h', fI hh = some (w, h') ∧ OwnSl hh.length h' w L ∧ Keep hh.length hh h')
    (hL : L.length ≤ 1048576) (hf : 1048576 < lf) :
    ∃ w h2 g0 h4 h7 g1 h9, fS h = some (w, h2) ∧ fI h2 = some (g0, h4) ∧ CL g lf N fn_laws_eqIntS [g0, w] h4 = some (.bool true, h4) ∧
      CL g lf N fn_laws_markIntS [g0, .int .i64 1] h4 = some (.int .i64 (1 + L.length), h7) ∧ CL g lf N fn_laws_heldIntS [g0, .int .i64 1] h7 = some (.int .i64 (1 + L.length), h7) ∧
      fI h7 = some (g1, h9) ∧ CL g lf N fn_laws_eqIntS [g1, w] h9 = some (.bool true, h9) ∧ CL g lf N fn_laws_heldIntS [g0, .int .i64 1] h9 = some (.int .i64 (1 + L.length), h9) := by
  obtain ⟨n, rfl⟩ : ∃ n, N = n + 1 := ⟨N - 1, by omega⟩
  obtain ⟨w, h2, e2, ow, k2⟩ := hS h (Keep.refl _ _)
  obtain ⟨g0, h4, e4, og, k4⟩ := hI h2 k2
  have K4 : Keep h.length h h4 := k2.trans (k4.mono k2.1)
  have w2 := ow.b
  have w4 := w2.keep k4
  have g4 := og.b
  have s4 := eqIntS_calls g lf n og.int w4.int (by omega) (by omega)
  obtain ⟨h7, e7, g7, t7⟩ := markIntS_calls g lf (n + 1) (by omega) g4 (by omega) (by omega)
  have K7 : Keep h.length h h7 := K4.trans (t7.keep.mono k2.1)
  have w7 := w4.only t7 (.inl (Nat.le_refl _))
  have s7 := heldIntS_calls g lf (n + 1) (by omega) g7.int (by omega) (by omega)
  obtain ⟨g1, h9, e9, o9, k9⟩ := hI h7 K7
  have len7 : h4.length ≤ h7.length := by rw [t7.1]; exact Nat.le_refl _
  have w9 := w7.keep (k9.mono (Nat.le_trans k4.1 len7))
  have g9 := g7.keep (k9.mono len7)
  have s9 := eqIntS_calls g lf n o9.int w9.int (by omega) (by omega)
  have s10 := heldIntS_calls g lf (n + 1) (by omega) g9.int (by omega) (by omega)
  simp only [decide_true] at s4 s9
  exact ⟨w, h2, g0, h4, h7, g1, h9, e2, e4, s4, e7, s7, e9, s9, s10⟩

end Go.Proofs.YtfgjbfaapbhppaaDoor

/- The laws of chapter 5 over what the program's functions are asked to compute. -/
namespace Go.Proofs.YtfgjbfaapbhppaaDoor
open Go Go.Ip G

/-- What is asked of the program's functions of chapter 5. -/
def MattersOk (g : Nat → PV) (lf : Nat) : Prop := ∀ (N : Nat), 40 ≤ N → ∀ (r c k : Int) {xs : List Int} {p : PV} {h : PHeap}, TabOk g h → IntSl .i64 h p xs → xs.length ≤ 2 ^ 35 → xs.length < lf →
  ∃ h', CL g lf N fn_impl_MattersAt [.int .i64 r, .int .i64 c, p, .int .i64 k] h = some (.bool (mattersL r c xs k), h') ∧ Keep h.length h h'
def DeadOk (g : Nat → PV) (lf : Nat) : Prop := ∀ (N : Nat), 40 ≤ N → ∀ (r c : Int) {xs : List Int} {p : PV} {h : PHeap}, TabOk g h → IntSl .i64 h p xs → xs.length ≤ 2 ^ 35 → xs.length < lf →
  ∃ q h', CL g lf N fn_impl_DeadCells [.int .i64 r, .int .i64 c, p] h = some (q, h') ∧ OwnSl h.length h' q (deadL r c xs) ∧ Keep h.length h h'
def FillOk (g : Nat → PV) (lf : Nat) : Prop := ∀ (N : Nat), 40 ≤ N → ∀ (r c pl : Int) {xs : List Int} {p : PV} {h : PHeap}, TabOk g h → IntSl .i64 h p xs → xs.length ≤ 2 ^ 35 → xs.length < lf →
  ∃ h', CL g lf N fn_impl_FillCount [.int .i64 r, .int .i64 c, p, .int .i64 pl] h = some (.int .i64 (countL r c xs pl), h') ∧ Keep h.length h h'
def PivotOk (g : Nat → PV) (lf : Nat) : Prop := ∀ (N : Nat), 40 ≤ N → ∀ (r c k : Int) {xs : List Int} {p : PV} {h : PHeap}, TabOk g h → IntSl .i64 h p xs → xs.length ≤ 2 ^ 35 → xs.length < lf →
  ∃ h', CL g lf N fn_impl_PivotCount [.int .i64 r, .int .i64 c, p, .int .i64 k] h = some (.int .i64 (pivotL r c xs k), h') ∧ Keep h.length h h'

theorem pivotL_none {r c : Int} {xs : List Int} {k : Int} (h : freeAt r c xs k = false) : pivotL r c xs k = -1 := by unfold pivotL; rw [h]; rfl
theorem mattersL_none {r c : Int} {xs : List Int} {k : Int} (h : freeAt r c xs k = false) : mattersL r c xs k = false := by unfold mattersL; rw [pivotL_none h]; rfl
theorem freeAt_none {r c : Int} {xs : List Int} {k : Nat} (h : posB r c xs = false ∨ ¬ k < xs.length) : freeAt r c xs (k : Int) = false := by
  cases e : freeAt r c xs (k : Int) with
  | false => rfl
  | true =>
    have := freeAt_iff.1 e
    rcases h with h | h
    · rw [h] at this; exact absurd this.1 (by decide)
    · exact (h (List.getElem?_eq_some_iff.1 this.2).1).elim
section
variable {R C : Nat} {xs : List Int} (hb : posB (R : Int) (C : Int) xs = true)
include hb
theorem mir_at {k : Nat} (hk : k < xs.length) : (mir R C xs)[sig C R k]? = some (swapI (xs.getD k 0)) := by
  have hS := sides_pos hb
  have hB := board_of_sides hS
  have hlen : xs.length = R * C := hS.2.2.2.2.2.2.2.1
  have hkl : k < R * C := by omega
  have hpm := (perm_sig hB).lt k hkl
  obtain ⟨h1, h2, h3, h4, h9⟩ := hB
  have hback : sig R C (sig C R k) = k := (sig_lt h3 h4 h1 h2 (by rw [Nat.mul_comm]; exact h9) (show k < C * R by rw [Nat.mul_comm]; exact hkl)).2
  rw [mir_get (by rw [hlen]; exact hpm), hback]
theorem pivot_mir_all {k : Nat} (hk : k < xs.length) : pivotL (C : Int) (R : Int) (mir R C xs) ((sig C R k : Nat) : Int) = pivotL (R : Int) (C : Int) xs (k : Int) := by
  have hS := sides_pos hb
  have hbm := posB_mir hS hb
  by_cases h0 : xs[k]? = some 0
  · exact pivot_mirrored hb hS h0 hbm
  · have e1 : freeAt (R : Int) (C : Int) xs (k : Int) = false := by
      cases e : freeAt (R : Int) (C : Int) xs (k : Int) with
      | false => rfl
      | true => exact (h0 (freeAt_iff.1 e).2).elim
    have e2 : freeAt (C : Int) (R : Int) (mir R C xs) ((sig C R k : Nat) : Int) = false := by
      cases e : freeAt (C : Int) (R : Int) (mir R C xs) ((sig C R k : Nat) : Int) with
      | false => rfl
      | true =>
        have := (freeAt_iff.1 e).2
        rw [mir_at hb hk] at this
        have hz := Option.some.inj this
        refine (h0 ?_).elim
        rw [get_of hk]
        congr 1
        unfold swapI at hz
        split at hz
        · omega
        · split at hz
          · omega
          · exact hz
    rw [pivotL_none e1, pivotL_none e2]
theorem matters_mir {k : Nat} (hk : k < xs.length) : mattersL (C : Int) (R : Int) (mir R C xs) ((sig C R k : Nat) : Int) = mattersL (R : Int) (C : Int) xs (k : Int) := by
  unfold mattersL; rw [pivot_mir_all hb hk]
theorem matters_facts {k : Nat} (h : mattersL (R : Int) (C : Int) xs (k : Int) = true) : xs[k]? = some 0 ∧ joinsL (R : Int) (C : Int) xs 1 = false ∧ joinsL (R : Int) (C : Int) xs 2 = false := by
  have hS := sides_pos hb
  have hf : freeAt (R : Int) (C : Int) xs (k : Int) = true := by
    cases e : freeAt (R : Int) (C : Int) xs (k : Int) with
    | true => rfl
    | false => rw [mattersL_none e] at h; cases h
  have hk := (freeAt_iff.1 hf).2
  unfold mattersL at h
  have hp := of_decide_eq_true h
  refine ⟨hk, ?_, ?_⟩
  · cases e : joinsL (R : Int) (C : Int) xs 1 with
    | false => rfl
    | true => rw [pivot_done hb hS hk (.inl e)] at hp; omega
  · cases e : joinsL (R : Int) (C : Int) xs 2 with
    | false => rfl
    | true => rw [pivot_done hb hS hk (.inr e)] at hp; omega
end

variable (g : Nat → PV) (lf n : Nat)

/-! ### the exact laws -/
theorem exactDeadCells_calls (hok : DeadOk g lf) {xs : List Int} {p : PV} {h : PHeap} (N : Nat) (hN : 41 ≤ N) (r c : Int) (ht : TabOk g h) (hp : IntSl .i64 h p xs) (hf : 1048576 < lf) :
    ∃ h', CL g lf N fn_laws_FnExactDeadCells [.int .i64 r, .int .i64 c, p] h = some (.bool true, h') := by
  obtain ⟨n, rfl⟩ : ∃ n, N = n + 1 := ⟨N - 1, by omega⟩
  apply W.yes
  rw [laws_FnExactDeadCells.call_eq]
  unfold laws_FnExactDeadCells.main
  simp only [env_C, env_pick, env_bin, env_un, env_len]
  have hlen := hp.len'
  by_cases hbig : (1048576 : Int) < (xs.length : Int)
  · repeat (first | with_reducible refine wT ?_ | with_reducible refine wrB ?_ | with_reducible refine wbd (by assumption) ?_ | with_reducible refine wgtrT (by omega) ?_)
    exact W.ret rfl
  · have hL := deadL_length r c xs
    obtain ⟨q1, h1, w, h2, q3, h3, g0, h4, y, h5, h6, h7, q8, h8, g1, h9, e1, e2, e3, e4, e5, e6, e7, e8, e9, e10, e11, e12, e13, e14, e15⟩ := exact_chain2 g lf n (by omega)
      (fun q h => CL g lf n fn_spec_DeadCells [.int .i64 r, .int .i64 c, q] h) (fun q h => CL g lf n fn_impl_DeadCells [.int .i64 r, .int .i64 c, q] h)
      (fun q hh _ hq => specDeadCells_calls g lf n (by omega) r c hq (by omega) (by omega) (by omega)) (fun q hh hk hq => hok n (by omega) r c (ht.keep hk) hq (by omega) (by omega)) hp (by omega) (by omega) hf
    repeat (first | with_reducible refine wF ?_ | with_reducible refine wg1 rfl ?_ | with_reducible refine wpF ?_ | with_reducible refine wnT ?_ | with_reducible refine wpv ?_ | with_reducible refine wsm ?_ | with_reducible refine wrB ?_ | with_reducible refine wbd (by assumption) ?_ | with_reducible refine wlssF (by omega) ?_ | with_reducible refine wgtrF (by omega) ?_ | with_reducible refine wneqF (by omega) ?_ | dsimp only)
    exact W.ret rfl

theorem exactMattersAt_calls (hok : MattersOk g lf) {xs : List Int} {p : PV} {h : PHeap} (N : Nat) (hN : 41 ≤ N) (r c x : Int) (ht : TabOk g h) (hp : IntSl .i64 h p xs) (hf : 1048576 < lf) :
    ∃ h', CL g lf N fn_laws_FnExactMattersAt [.int .i64 r, .int .i64 c, p, .int .i64 x] h = some (.bool true, h') := by
  obtain ⟨n, rfl⟩ : ∃ n, N = n + 1 := ⟨N - 1, by omega⟩
  apply W.yes
  rw [laws_FnExactMattersAt.call_eq]
  unfold laws_FnExactMattersAt.main
  simp only [env_C, env_bin, env_un, env_len]
  have hlen := hp.len'
  by_cases hbig : (1048576 : Int) < (xs.length : Int)
  · repeat (first | with_reducible refine wT ?_ | with_reducible refine wrB ?_ | with_reducible refine wbd (by assumption) ?_ | with_reducible refine wgtrT (by omega) ?_)
    exact W.ret rfl
  · obtain ⟨q1, h1, e1, o1, k1⟩ := toIntS_calls g lf n (by omega) hp (by omega) (by omega)
    obtain ⟨h2, e2, k2⟩ := specMattersAt_calls g lf n (by omega) r c x o1.int (by omega) (by omega) (by omega)
    have K2 : Keep h.length h h2 := k1.trans (k2.mono k1.1)
    obtain ⟨q3, h3, e3, o3, k3⟩ := toIntS_calls g lf n (by omega) (hp.keep K2) (by omega) (by omega)
    have K3 : Keep h.length h h3 := K2.trans (k3.mono K2.1)
    obtain ⟨h4, e4, k4⟩ := hok n (by omega) r c x (ht.keep K3) o3.int (by omega) (by omega)
    have K4 : Keep h.length h h4 := K3.trans (k4.mono K3.1)
    obtain ⟨q5, h5, e5, o5, k5⟩ := toIntS_calls g lf n (by omega) (hp.keep K4) (by omega) (by omega)
    have e6 := eqIntS_N g lf n (by omega) ((o3.keep k4).keep k5).int o5.int (by omega) (by omega)
    rw [decide_eq_true rfl] at e6
    repeat (first | with_reducible refine wF ?_ | with_reducible refine wnT ?_ | with_reducible refine wrB ?_ | with_reducible refine wbd (by assumption) ?_ | (with_reducible refine wneqBB ?_) | with_reducible refine wgtrF (by omega) ?_ | dsimp only)
    exact W.ret rfl

theorem exactFillCount_calls (hok : FillOk g lf) {xs : List Int} {p : PV} {h : PHeap} (N : Nat) (hN : 41 ≤ N) (r c x : Int) (ht : TabOk g h) (hp : IntSl .i64 h p xs) (hf : 1048576 < lf) :
    ∃ h', CL g lf N fn_laws_FnExactFillCount [.int .i64 r, .int .i64 c, p, .int .i64 x] h = some (.bool true, h') := by
  obtain ⟨n, rfl⟩ : ∃ n, N = n + 1 := ⟨N - 1, by omega⟩
  apply W.yes
  rw [laws_FnExactFillCount.call_eq]
  unfold laws_FnExactFillCount.main
  simp only [env_C, env_bin, env_un, env_len]
  have hlen := hp.len'
  by_cases hbig : (1048576 : Int) < (xs.length : Int)
  · repeat (first | with_reducible refine wT ?_ | with_reducible refine wrB ?_ | with_reducible refine wbd (by assumption) ?_ | with_reducible refine wgtrT (by omega) ?_)
    exact W.ret rfl
  · obtain ⟨q1, h1, e1, o1, k1⟩ := toIntS_calls g lf n (by omega) hp (by omega) (by omega)
    obtain ⟨h2, e2, k2⟩ := specFillCount_calls g lf n (by omega) r c x o1.int (by omega) (by omega) (by omega)
    have K2 : Keep h.length h h2 := k1.trans (k2.mono k1.1)
    obtain ⟨q3, h3, e3, o3, k3⟩ := toIntS_calls g lf n (by omega) (hp.keep K2) (by omega) (by omega)
    have K3 : Keep h.length h h3 := K2.trans (k3.mono K2.1)
    obtain ⟨h4, e4, k4⟩ := hok n (by omega) r c x (ht.keep K3) o3.int (by omega) (by omega)
    have K4 : Keep h.length h h4 := K3.trans (k4.mono K3.1)
    obtain ⟨q5, h5, e5, o5, k5⟩ := toIntS_calls g lf n (by omega) (hp.keep K4) (by omega) (by omega)
    have e6 := eqIntS_N g lf n (by omega) ((o3.keep k4).keep k5).int o5.int (by omega) (by omega)
    rw [decide_eq_true rfl] at e6
    repeat (first | with_reducible refine wF ?_ | with_reducible refine wnT ?_ | with_reducible refine wrB ?_ | with_reducible refine wbd (by assumption) ?_ | with_reducible refine wgtrF (by omega) ?_ | with_reducible refine wneqF (by omega) ?_ | dsimp only)
    exact W.ret rfl

theorem exactPivotCount_calls (hok : PivotOk g lf) {xs : List Int} {p : PV} {h : PHeap} (N : Nat) (hN : 41 ≤ N) (r c x : Int) (ht : TabOk g h) (hp : IntSl .i64 h p xs) (hf : 1048576 < lf) :
    ∃ h', CL g lf N fn_laws_FnExactPivotCount [.int .i64 r, .int .i64 c, p, .int .i64 x] h = some (.bool true, h') := by
  obtain ⟨n, rfl⟩ : ∃ n, N = n + 1 := ⟨N - 1, by omega⟩
  apply W.yes
  rw [laws_FnExactPivotCount.call_eq]
  unfold laws_FnExactPivotCount.main
  simp only [env_C, env_bin, env_un, env_len]
  have hlen := hp.len'
  by_cases hbig : (1048576 : Int) < (xs.length : Int)
  · repeat (first | with_reducible refine wT ?_ | with_reducible refine wrB ?_ | with_reducible refine wbd (by assumption) ?_ | with_reducible refine wgtrT (by omega) ?_)
    exact W.ret rfl
  · obtain ⟨q1, h1, e1, o1, k1⟩ := toIntS_calls g lf n (by omega) hp (by omega) (by omega)
    obtain ⟨h2, e2, k2⟩ := specPivotCount_calls g lf n (by omega) r c x o1.int (by omega) (by omega) (by omega)
    have K2 : Keep h.length h h2 := k1.trans (k2.mono k1.1)
    obtain ⟨q3, h3, e3, o3, k3⟩ := toIntS_calls g lf n (by omega) (hp.keep K2) (by omega) (by omega)
    have K3 : Keep h.length h h3 := K2.trans (k3.mono K2.1)
    obtain ⟨h4, e4, k4⟩ := hok n (by omega) r c x (ht.keep K3) o3.int (by omega) (by omega)
    have K4 : Keep h.length h h4 := K3.trans (k4.mono K3.1)
    obtain ⟨q5, h5, e5, o5, k5⟩ := toIntS_calls g lf n (by omega) (hp.keep K4) (by omega) (by omega)
    have e6 := eqIntS_N g lf n (by omega) ((o3.keep k4).keep k5).int o5.int (by omega) (by omega)
    rw [decide_eq_true rfl] at e6
    repeat (first | with_reducible refine wF ?_ | with_reducible refine wnT ?_ | with_reducible refine wrB ?_ | with_reducible refine wbd (by assumption) ?_ | with_reducible refine wgtrF (by omega) ?_ | with_reducible refine wneqF (by omega) ?_ | dsimp only)
    exact W.ret rfl

theorem fnMattersAt_calls (hM : MattersOk g lf) (hJ : JoinsOk g lf) {p : PV} {ys : List Int} {h : PHeap} (N : Nat) (hN : 45 ≤ N) (ha : Arg h p ys) (hlf : 1000 < lf) (ht : TabOk g h) :
    ∃ h', CL g lf N fn_laws_FnMattersAt [p] h = some (.bool true, h') := by
  obtain ⟨n, rfl⟩ : ∃ n, N = n + 1 := ⟨N - 1, by omega⟩
  apply W.yes
  rw [laws_FnMattersAt.call_eq]
  unfold laws_FnMattersAt.main
  simp only [env_C, env_pick, env_load, env_bin, env_un, env_indexAddr, env_extract, env_len]
  have hlenp : lenP Tryd.prog 22 p = some (.int .i64 ys.length) := (ha.1 h (Keep.refl _ _)).len tyB
  by_cases hbig : (1048576 : Int) < (ys.length : Int)
  · repeat (first | with_reducible refine wT ?_ | with_reducible refine wrB ?_ | with_reducible refine wbd (by assumption) ?_ | with_reducible refine wgtrT (by omega) ?_)
    exact W.ret rfl
  obtain ⟨r, c, q, xs, K, h1, e1, k1, hq0, hl, hK⟩ := drawMattersAt_W g lf n (by omega) ha (by omega)
  have htF := tabF ht k1
  have hb1 : h1.length ≤ h1.length := Nat.le_refl _
  have k0 : Keep h1.length h1 h1 := Keep.refl _ _
  have hal : ∀ h2, CL g lf n fn_laws_alive [] h2 = some (.bool true, h2) := fun h2 => alive_calls g lf n (by omega) h2
  have hq : Fix h1.length h1 q xs := hq0.fix
  have hpos : ∀ h2, Keep h1.length h1 h2 → CL g lf n fn_spec_PositionOk [.int .i64 r, .int .i64 c, q] h2 = some (.bool (posB r c xs), h2) := fun h2 k2 => specPositionOk_N g lf n (by omega) r c (hq h2 k2) (by omega) (by omega)
  have hI : ∀ h2, Keep h1.length h1 h2 → ∃ h', CL g lf n fn_impl_MattersAt [.int .i64 r, .int .i64 c, q, .int .i64 (K : Int)] h2 = some (.bool (mattersL r c xs (K : Int)), h') ∧ Keep h2.length h2 h' := fun h2 k2 => hM n (by omega) r c (K : Int) (htF _ k2) (hq _ k2) (by omega) (by omega)
  have hSp : ∀ h2, Keep h1.length h1 h2 → ∃ h', CL g lf n fn_spec_MattersAt [.int .i64 r, .int .i64 c, q, .int .i64 (K : Int)] h2 = some (.bool (mattersL r c xs (K : Int)), h') ∧ Keep h2.length h2 h' := fun h2 k2 => specMattersAt_calls g lf n (by omega) r c (K : Int) (hq _ k2) (by omega) (by omega) hlf
  have hlq : ∀ h2, Keep h1.length h1 h2 → lenP Tryd.prog 23 q = some (.int .i64 xs.length) := fun h2 k2 => (hq _ k2).len'
  cases hb : posB r c xs with
  | false =>
    rw [mattersL_none (freeAt_none (.inl hb))] at hI hSp
    rw [hb] at hpos
    repeat (first | with_reducible refine wT ?_ | with_reducible refine wF ?_ | with_reducible refine wg1 rfl ?_ | with_reducible refine wg0 rfl ?_ | with_reducible refine wpT ?_ | with_reducible refine wnF ?_ | with_reducible refine wsm ?_ | with_reducible refine wrB ?_ | with_reducible refine wx0 ?_ | with_reducible refine wx1 ?_ | with_reducible refine wx2 ?_ | with_reducible refine wx3 ?_ | with_reducible refine wbd (by assumption) ?_ | (with_reducible refine wneqBB ?_) | (with_reducible refine wbd (hpos _ (by assumption)) ?_) | (with_reducible refine wbd (hal _) ?_) | (with_reducible refine wcv (hI _ (by assumption)) (by assumption) hb1 fun _ _ => ?_) | (with_reducible refine wcv (hSp _ (by assumption)) (by assumption) hb1 fun _ _ => ?_) | with_reducible refine wgtrF (by omega) ?_ | dsimp only)
    exact W.ret rfl
  | true =>
  rw [hb] at hpos
  by_cases hKl : K < xs.length
  · obtain ⟨R, C, hS⟩ := sides_of hb
    obtain ⟨rfl, rfl, s1, s2, s3, s4, s9, slen, sall⟩ := id hS
    obtain ⟨x, hx⟩ : ∃ x, x = K % C := ⟨_, rfl⟩
    obtain ⟨y, hy⟩ : ∃ y, y = K / C := ⟨_, rfl⟩
    have hx9 : x ≤ 10 := by rw [hx]; exact Nat.le_trans (Nat.mod_le _ _) (by omega)
    have hy9 : y ≤ 10 := by rw [hy]; exact Nat.le_trans (Nat.div_le_self _ _) (by omega)
    have hxm : x * R ≤ 40 := Nat.mul_le_mul hx9 s2
    have hml : mirL (R : Int) (C : Int) xs = mir R C xs := by unfold mirL; rw [hb]; rfl
    have hMi : ∀ h2, Keep h1.length h1 h2 → ∃ q' h', CL g lf n fn_impl_Mirrored [.int .i64 (R : Int), .int .i64 (C : Int), q] h2 = some (q', h') ∧ OwnSl h2.length h' q' (mir R C xs) ∧ Keep h2.length h2 h' := fun h2 k2 => by
      have := mirrored_calls g lf n (by omega) (R : Int) (C : Int) (hq _ k2) (by omega) (by omega)
      rw [hml] at this; exact this
    have hmm := matters_mir hb hKl
    have hsig : sig C R K = x * R + y := by rw [hx, hy]; rfl
    rw [hsig] at hmm
    have hMM : ∀ h2, Keep h1.length h1 h2 → ∀ {q2 : PV}, IntSl .i64 h2 q2 (mir R C xs) → ∃ h', CL g lf n fn_impl_MattersAt [.int .i64 (C : Int), .int .i64 (R : Int), q2, .int .i64 ((x * R + y : Nat) : Int)] h2 = some (.bool (mattersL (R : Int) (C : Int) xs (K : Int)), h') ∧ Keep h2.length h2 h' := fun h2 k2 q2 i2 => by
      have := hM n (by omega) (C : Int) (R : Int) ((x * R + y : Nat) : Int) (htF _ k2) i2 (by rw [mir_length]; omega) (by rw [mir_length]; omega)
      rw [hmm] at this; exact this
    have hJI : ∀ w h2, Keep h1.length h1 h2 → ∃ h', CL g lf n fn_impl_Joins [.int .i64 (R : Int), .int .i64 (C : Int), q, .int .i64 w] h2 = some (.bool (joinsL (R : Int) (C : Int) xs w), h') ∧ Keep h2.length h2 h' := fun w h2 k2 => hJ n (by omega) (R : Int) (C : Int) w (htF _ k2) (hq _ k2) (by omega) (by omega)
    have hJ1 := hJI 1
    have hJ2 := hJI 2
    cases hm : mattersL (R : Int) (C : Int) xs (K : Int) with
    | true =>
      obtain ⟨f1, f2, f3⟩ := matters_facts hb hm
      rw [hm] at hI hSp hMM
      rw [f2] at hJ1
      rw [f3] at hJ2
      have hxK : xs[K] = 0 := by rw [List.getElem?_eq_getElem hKl] at f1; exact Option.some.inj f1
      repeat (first | with_reducible refine wF ?_ | with_reducible refine wg1 rfl ?_ | with_reducible refine wpT ?_ | with_reducible refine wpF ?_ | with_reducible refine wnT ?_ | with_reducible refine wnF ?_ | with_reducible refine wpv ?_ | with_reducible refine wsm ?_ | with_reducible refine wrB ?_ | with_reducible refine wx0 ?_ | with_reducible refine wx1 ?_ | with_reducible refine wx2 ?_ | with_reducible refine wx3 ?_ | with_reducible refine wbd (by assumption) ?_ | with_reducible refine wlen (by assumption) ?_ | (with_reducible refine wneqBB ?_) | (with_reducible refine weqlBB ?_) | (with_reducible refine wbd (hpos _ (by assumption)) ?_) | (with_reducible refine wbd (hal _) ?_) | (with_reducible refine wcv (hI _ (by assumption)) (by assumption) hb1 fun _ _ => ?_) | (with_reducible refine wcv (hSp _ (by assumption)) (by assumption) hb1 fun _ _ => ?_) | (with_reducible refine wcv (hJ1 _ (by assumption)) (by assumption) hb1 fun _ _ => ?_) | (with_reducible refine wcv (hJ2 _ (by assumption)) (by assumption) hb1 fun _ _ => ?_) | (with_reducible refine wcl (hMi _ (by assumption)) (by assumption) hb1 fun _ _ _ _ _ => ?_) | (with_reducible refine wcv (hMM _ (by assumption) (OwnSl.int (by assumption))) (by assumption) hb1 fun _ _ => ?_) | (with_reducible refine wat (hq.get (by assumption)) hKl fun a hl => ?_) | (rw [← hx]) | (rw [← hy]) | (rw [hxK]) | with_reducible refine waddN (by omega) ?_ | with_reducible refine wmulN (by omega) ?_ | with_reducible refine wquoN (by omega) (by omega) ?_ | with_reducible refine wremN (by omega) ?_ | with_reducible refine wgtrF (by omega) ?_ | with_reducible refine wgeqF (by omega) ?_ | with_reducible refine weqlT (by omega) ?_ | dsimp only)
      exact W.ret rfl
    | false =>
      rw [hm] at hI hSp hMM
      cases j1 : joinsL (R : Int) (C : Int) xs 1 with
      | true =>
        rw [j1] at hJ1
        repeat (first | with_reducible refine wF ?_ | with_reducible refine wg1 rfl ?_ | with_reducible refine wg0 rfl ?_ | with_reducible refine wgu ?_ | with_reducible refine wpT ?_ | with_reducible refine wpF ?_ | with_reducible refine wnT ?_ | with_reducible refine wnF ?_ | with_reducible refine wpv ?_ | with_reducible refine wsm ?_ | with_reducible refine wrB ?_ | with_reducible refine wx0 ?_ | with_reducible refine wx1 ?_ | with_reducible refine wx2 ?_ | with_reducible refine wx3 ?_ | with_reducible refine wbd (by assumption) ?_ | with_reducible refine wlen (by assumption) ?_ | (with_reducible refine wneqBB ?_) | (with_reducible refine weqlBB ?_) | (with_reducible refine wbd (hpos _ (by assumption)) ?_) | (with_reducible refine wbd (hal _) ?_) | (with_reducible refine wcv (hI _ (by assumption)) (by assumption) hb1 fun _ _ => ?_) | (with_reducible refine wcv (hSp _ (by assumption)) (by assumption) hb1 fun _ _ => ?_) | (with_reducible refine wcv (hJ1 _ (by assumption)) (by assumption) hb1 fun _ _ => ?_) | (with_reducible refine wcl (hMi _ (by assumption)) (by assumption) hb1 fun _ _ _ _ _ => ?_) | (with_reducible refine wcv (hMM _ (by assumption) (OwnSl.int (by assumption))) (by assumption) hb1 fun _ _ => ?_) | (rw [← hx]) | (rw [← hy]) | with_reducible refine waddN (by omega) ?_ | with_reducible refine wmulN (by omega) ?_ | with_reducible refine wquoN (by omega) (by omega) ?_ | with_reducible refine wremN (by omega) ?_ | with_reducible refine wgtrF (by omega) ?_ | with_reducible refine wgeqF (by omega) ?_ | dsimp only)
        exact W.ret rfl
      | false =>
        rw [j1] at hJ1
        repeat (first | with_reducible refine wF ?_ | with_reducible refine wg1 rfl ?_ | with_reducible refine wg0 rfl ?_ | with_reducible refine wgu ?_ | with_reducible refine wpT ?_ | with_reducible refine wpF ?_ | with_reducible refine wnT ?_ | with_reducible refine wnF ?_ | with_reducible refine wpv ?_ | with_reducible refine wsm ?_ | with_reducible refine wrB ?_ | with_reducible refine wx0 ?_ | with_reducible refine wx1 ?_ | with_reducible refine wx2 ?_ | with_reducible refine wx3 ?_ | with_reducible refine wbd (by assumption) ?_ | with_reducible refine wlen (by assumption) ?_ | (with_reducible refine wneqBB ?_) | (with_reducible refine weqlBB ?_) | (with_reducible refine wbd (hpos _ (by assumption)) ?_) | (with_reducible refine wbd (hal _) ?_) | (with_reducible refine wcv (hI _ (by assumption)) (by assumption) hb1 fun _ _ => ?_) | (with_reducible refine wcv (hSp _ (by assumption)) (by assumption) hb1 fun _ _ => ?_) | (with_reducible refine wcv (hJ1 _ (by assumption)) (by assumption) hb1 fun _ _ => ?_) | (with_reducible refine wcv (hJ2 _ (by assumption)) (by assumption) hb1 fun _ _ => ?_) | (with_reducible refine wcl (hMi _ (by assumption)) (by assumption) hb1 fun _ _ _ _ _ => ?_) | (with_reducible refine wcv (hMM _ (by assumption) (OwnSl.int (by assumption))) (by assumption) hb1 fun _ _ => ?_) | (rw [← hx]) | (rw [← hy]) | with_reducible refine waddN (by omega) ?_ | with_reducible refine wmulN (by omega) ?_ | with_reducible refine wquoN (by omega) (by omega) ?_ | with_reducible refine wremN (by omega) ?_ | with_reducible refine wgtrF (by omega) ?_ | with_reducible refine wgeqF (by omega) ?_ | dsimp only)
        exact W.ret rfl
  · rw [mattersL_none (freeAt_none (.inr hKl))] at hI hSp
    repeat (first | with_reducible refine wT ?_ | with_reducible refine wF ?_ | with_reducible refine wg1 rfl ?_ | with_reducible refine wpT ?_ | with_reducible refine wpF ?_ | with_reducible refine wnT ?_ | with_reducible refine wnF ?_ | with_reducible refine wpv ?_ | with_reducible refine wsm ?_ | with_reducible refine wrB ?_ | with_reducible refine wx0 ?_ | with_reducible refine wx1 ?_ | with_reducible refine wx2 ?_ | with_reducible refine wx3 ?_ | with_reducible refine wbd (by assumption) ?_ | with_reducible refine wlen (by assumption) ?_ | (with_reducible refine wneqBB ?_) | (with_reducible refine wbd (hpos _ (by assumption)) ?_) | (with_reducible refine wbd (hal _) ?_) | (with_reducible refine wcv (hI _ (by assumption)) (by assumption) hb1 fun _ _ => ?_) | (with_reducible refine wcv (hSp _ (by assumption)) (by assumption) hb1 fun _ _ => ?_) | with_reducible refine wgtrF (by omega) ?_ | with_reducible refine wgeqT (by omega) ?_ | dsimp only)
    exact W.ret rfl

theorem fnPivotCount_calls (hPv : PivotOk g lf) (hFi : FillOk g lf) (hM : MattersOk g lf) {p : PV} {ys : List Int} {h : PHeap} (N : Nat) (hN : 45 ≤ N) (ha : Arg h p ys) (hlf : 1000 < lf) (ht : TabOk g h) :
    ∃ h', CL g lf N fn_laws_FnPivotCount [p] h = some (.bool true, h') := by
  obtain ⟨n, rfl⟩ : ∃ n, N = n + 1 := ⟨N - 1, by omega⟩
  apply W.yes
  rw [laws_FnPivotCount.call_eq]
  unfold laws_FnPivotCount.main
  simp only [env_C, env_pick, env_buildSlice, env_store, env_bin, env_indexAddr, env_extract, env_len, env_append]
  have hlenp : lenP Tryd.prog 22 p = some (.int .i64 ys.length) := (ha.1 h (Keep.refl _ _)).len tyB
  by_cases hbig : (1048576 : Int) < (ys.length : Int)
  · repeat (first | with_reducible refine wT ?_ | with_reducible refine wrB ?_ | with_reducible refine wbd (by assumption) ?_ | with_reducible refine wgtrT (by omega) ?_)
    exact W.ret rfl
  obtain ⟨r, c, q, xs, K, h1, e1, k1, hq0, hl, hK⟩ := drawPivotCount_W g lf n (by omega) ha (by omega)
  have htF := tabF ht k1
  have hb1 : h1.length ≤ h1.length := Nat.le_refl _
  have k0 : Keep h1.length h1 h1 := Keep.refl _ _
  have hal : ∀ h2, CL g lf n fn_laws_alive [] h2 = some (.bool true, h2) := fun h2 => alive_calls g lf n (by omega) h2
  have hq : Fix h1.length h1 q xs := hq0.fix
  have hpos : ∀ h2, Keep h1.length h1 h2 → CL g lf n fn_spec_PositionOk [.int .i64 r, .int .i64 c, q] h2 = some (.bool (posB r c xs), h2) := fun h2 k2 => specPositionOk_N g lf n (by omega) r c (hq h2 k2) (by omega) (by omega)
  have hI : ∀ h2, Keep h1.length h1 h2 → ∃ h', CL g lf n fn_impl_PivotCount [.int .i64 r, .int .i64 c, q, .int .i64 (K : Int)] h2 = some (.int .i64 (pivotL r c xs (K : Int)), h') ∧ Keep h2.length h2 h' := fun h2 k2 => hPv n (by omega) r c (K : Int) (htF _ k2) (hq _ k2) (by omega) (by omega)
  have hSp : ∀ h2, Keep h1.length h1 h2 → ∃ h', CL g lf n fn_spec_PivotCount [.int .i64 r, .int .i64 c, q, .int .i64 (K : Int)] h2 = some (.int .i64 (pivotL r c xs (K : Int)), h') ∧ Keep h2.length h2 h' := fun h2 k2 => specPivotCount_calls g lf n (by omega) r c (K : Int) (hq _ k2) (by omega) (by omega) hlf
  have hbg := pivotL_big r c xs (K : Int)
  cases hfa : freeAt r c xs (K : Int) with
  | false =>
    rw [pivotL_none hfa] at hI hSp
    repeat (first | with_reducible refine wT ?_ | with_reducible refine wF ?_ | with_reducible refine wg1 rfl ?_ | with_reducible refine wpT ?_ | with_reducible refine wrB ?_ | with_reducible refine wx0 ?_ | with_reducible refine wx1 ?_ | with_reducible refine wx2 ?_ | with_reducible refine wx3 ?_ | with_reducible refine wbd (by assumption) ?_ | (with_reducible refine wbd (hal _) ?_) | (with_reducible refine wcv (hI _ (by assumption)) (by assumption) hb1 fun _ _ => ?_) | (with_reducible refine wcv (hSp _ (by assumption)) (by assumption) hb1 fun _ _ => ?_) | with_reducible refine wlssT (by omega) ?_ | with_reducible refine wgtrF (by omega) ?_ | with_reducible refine weqlT (by omega) ?_ | with_reducible refine wneqF (by omega) ?_ | dsimp only)
    exact W.ret rfl
  | true =>
  obtain ⟨hb, hK0⟩ := freeAt_iff.1 hfa
  have hKl : K < xs.length := (List.getElem?_eq_some_iff.1 hK0).1
  obtain ⟨R, C, hS⟩ := sides_of hb
  obtain ⟨rfl, rfl, s1, s2, s3, s4, s9, slen, sall⟩ := id hS
  have hpe := pivotL_eq hb hK0
  have hn0 : 0 ≤ pivotL (R : Int) (C : Int) xs (K : Int) := by rw [hpe]; omega
  have hdiff := pivot_diff hb hS hK0
  obtain ⟨Z, hZ⟩ : ∃ Z, Z = pivotL (R : Int) (C : Int) xs (K : Int) := ⟨_, rfl⟩
  have hmat : mattersL (R : Int) (C : Int) xs (K : Int) = decide (0 < Z) := by unfold mattersL; rw [hZ]
  rw [← hZ] at hI hSp hbg hn0 hdiff
  have hMI : ∀ h2, Keep h1.length h1 h2 → ∃ h', CL g lf n fn_impl_MattersAt [.int .i64 (R : Int), .int .i64 (C : Int), q, .int .i64 (K : Int)] h2 = some (.bool (decide (0 < Z)), h') ∧ Keep h2.length h2 h' := fun h2 k2 => by
    have := hM n (by omega) (R : Int) (C : Int) (K : Int) (htF _ k2) (hq _ k2) (by omega) (by omega)
    rw [hmat] at this; exact this
  repeat (first | with_reducible refine wF ?_ | with_reducible refine wx0 ?_ | with_reducible refine wx1 ?_ | with_reducible refine wx2 ?_ | with_reducible refine wx3 ?_ | with_reducible refine wbd (by assumption) ?_ | (with_reducible refine wcv (hI _ (by assumption)) (by assumption) hb1 fun _ _ => ?_) | (with_reducible refine wcv (hSp _ (by assumption)) (by assumption) hb1 fun _ _ => ?_) | with_reducible refine wlssF (by omega) ?_ | with_reducible refine wgtrF (by omega) ?_ | with_reducible refine wneqF (by omega) ?_ | dsimp only)
  rename_i h3 k3
  obtain ⟨v5, q5, h5, e5, e5', o5, k5⟩ := copy_all (hq _ k3) (by omega) (by omega)
  repeat (first | with_reducible refine wbd (by assumption) ?_ | dsimp only)
  refine wst o5 hKl fun h6 o6 k6 l6 a6 e6 => ?_
  have k16 : Keep h1.length h1 h6 := k3.trans ((k5.trans k6).mono k3.1)
  obtain ⟨v7, q7, h7, e7, e7', o7, k7⟩ := copy_all (hq _ k16) (by omega) (by omega)
  repeat (first | with_reducible refine wbd (by assumption) ?_ | dsimp only)
  refine wst o7 hKl fun h8 o8 k8 l8 a8 e8 => ?_
  have k68 : Keep h6.length h6 h8 := k7.trans k8
  have k18 : Keep h1.length h1 h8 := k16.trans (k68.mono k16.1)
  have o6' := o6.keep k68
  obtain ⟨h9, e9, k9⟩ := hFi n (by omega) (R : Int) (C : Int) 1 (htF _ k18) o6'.int (by rw [List.length_set]; omega) (by rw [List.length_set]; omega)
  have k19 := k18.trans (k9.mono k18.1)
  obtain ⟨hA, eA, kA⟩ := hFi n (by omega) (R : Int) (C : Int) 1 (htF _ k19) (o8.keep k9).int (by rw [List.length_set]; omega) (by rw [List.length_set]; omega)
  have k1A := k19.trans (kA.mono k19.1)
  have c1 := countL_big (R : Int) (C : Int) (xs.set K 1) 1
  have c2 := countL_big (R : Int) (C : Int) (xs.set K 2) 1
  by_cases hz : 0 < Z
  · rw [decide_eq_true hz] at hMI
    repeat (first | with_reducible refine wg1 rfl ?_ | with_reducible refine wpT ?_ | with_reducible refine wpv ?_ | with_reducible refine wsm ?_ | with_reducible refine wrB ?_ | with_reducible refine wbd (by assumption) ?_ | (with_reducible refine weqlBB ?_) | (with_reducible refine wcv (hMI _ (by assumption)) (by assumption) hb1 fun _ _ => ?_) | with_reducible refine wgtrT (by omega) ?_ | with_reducible refine weqlT (by omega) ?_ | with_reducible refine wsub (by omega) ?_ | dsimp only)
    exact W.ret rfl
  · rw [decide_eq_false hz] at hMI
    repeat (first | with_reducible refine wg1 rfl ?_ | with_reducible refine wpT ?_ | with_reducible refine wpv ?_ | with_reducible refine wsm ?_ | with_reducible refine wrB ?_ | with_reducible refine wbd (by assumption) ?_ | (with_reducible refine weqlBB ?_) | (with_reducible refine wcv (hMI _ (by assumption)) (by assumption) hb1 fun _ _ => ?_) | with_reducible refine wgtrF (by omega) ?_ | with_reducible refine weqlT (by omega) ?_ | with_reducible refine wsub (by omega) ?_ | dsimp only)
    exact W.ret rfl

set_option maxHeartbeats 1000000 in
theorem fnPivotTurned_calls (hPv : PivotOk g lf) {p : PV} {ys : List Int} {h : PHeap} (N : Nat) (hN : 45 ≤ N) (ha : Arg h p ys) (hlf : 1000 < lf) (ht : TabOk g h) :
    ∃ h', CL g lf N fn_laws_FnPivotTurned [p] h = some (.bool true, h') := by
  obtain ⟨n, rfl⟩ : ∃ n, N = n + 1 := ⟨N - 1, by omega⟩
  apply W.yes
  rw [laws_FnPivotTurned.call_eq]
  unfold laws_FnPivotTurned.main
  simp only [env_C, env_pick, env_bin, env_extract, env_len]
  have hlenp : lenP Tryd.prog 22 p = some (.int .i64 ys.length) := (ha.1 h (Keep.refl _ _)).len tyB
  by_cases hbig : (1048576 : Int) < (ys.length : Int)
  · repeat (first | with_reducible refine wT ?_ | with_reducible refine wrB ?_ | with_reducible refine wbd (by assumption) ?_ | with_reducible refine wgtrT (by omega) ?_)
    exact W.ret rfl
  obtain ⟨r, c, q, xs, K, h1, e1, k1, hq0, hl, hK⟩ := drawPivotCount_W g lf n (by omega) ha (by omega)
  have htF := tabF ht k1
  have hb1 : h1.length ≤ h1.length := Nat.le_refl _
  have k0 : Keep h1.length h1 h1 := Keep.refl _ _
  have hal : ∀ h2, CL g lf n fn_laws_alive [] h2 = some (.bool true, h2) := fun h2 => alive_calls g lf n (by omega) h2
  have hq : Fix h1.length h1 q xs := hq0.fix
  have hpos : ∀ h2, Keep h1.length h1 h2 → CL g lf n fn_spec_PositionOk [.int .i64 r, .int .i64 c, q] h2 = some (.bool (posB r c xs), h2) := fun h2 k2 => specPositionOk_N g lf n (by omega) r c (hq h2 k2) (by omega) (by omega)
  have hI : ∀ h2, Keep h1.length h1 h2 → ∃ h', CL g lf n fn_impl_PivotCount [.int .i64 r, .int .i64 c, q, .int .i64 (K : Int)] h2 = some (.int .i64 (pivotL r c xs (K : Int)), h') ∧ Keep h2.length h2 h' := fun h2 k2 => hPv n (by omega) r c (K : Int) (htF _ k2) (hq _ k2) (by omega) (by omega)
  have hSp : ∀ h2, Keep h1.length h1 h2 → ∃ h', CL g lf n fn_spec_PivotCount [.int .i64 r, .int .i64 c, q, .int .i64 (K : Int)] h2 = some (.int .i64 (pivotL r c xs (K : Int)), h') ∧ Keep h2.length h2 h' := fun h2 k2 => specPivotCount_calls g lf n (by omega) r c (K : Int) (hq _ k2) (by omega) (by omega) hlf
  cases hfa : freeAt r c xs (K : Int) with
  | false =>
    rw [pivotL_none hfa] at hI hSp
    repeat (first | with_reducible refine wT ?_ | with_reducible refine wF ?_ | with_reducible refine wg1 rfl ?_ | with_reducible refine wpT ?_ | with_reducible refine wrB ?_ | with_reducible refine wx0 ?_ | with_reducible refine wx1 ?_ | with_reducible refine wx2 ?_ | with_reducible refine wx3 ?_ | with_reducible refine wbd (by assumption) ?_ | (with_reducible refine wbd (hal _) ?_) | (with_reducible refine wcv (hI _ (by assumption)) (by assumption) hb1 fun _ _ => ?_) | (with_reducible refine wcv (hSp _ (by assumption)) (by assumption) hb1 fun _ _ => ?_) | with_reducible refine wlssT (by omega) ?_ | with_reducible refine wgtrF (by omega) ?_ | with_reducible refine weqlT (by omega) ?_ | dsimp only)
    exact W.ret rfl
  | true =>
  obtain ⟨hb, hK0⟩ := freeAt_iff.1 hfa
  have hKl : K < xs.length := (List.getElem?_eq_some_iff.1 hK0).1
  obtain ⟨R, C, hS⟩ := sides_of hb
  obtain ⟨rfl, rfl, s1, s2, s3, s4, s9, slen, sall⟩ := id hS
  have hpe := pivotL_eq hb hK0
  have hn0 : 0 ≤ pivotL (R : Int) (C : Int) xs (K : Int) := by rw [hpe]; omega
  have htl : turnL (R : Int) (C : Int) xs = xs.reverse := by unfold turnL; rw [hb]; rfl
  have hml : mirL (R : Int) (C : Int) xs = mir R C xs := by unfold mirL; rw [hb]; rfl
  have hbr : posB (R : Int) (C : Int) xs.reverse = true := by
    unfold posB at hb ⊢; rw [List.length_reverse, List.all_reverse]; exact hb
  have hpt := pivot_turned hb hS hK0 hbr
  have hpm := pivot_mir_all hb hKl
  obtain ⟨x, hx⟩ : ∃ x, x = K % C := ⟨_, rfl⟩
  obtain ⟨y, hy⟩ : ∃ y, y = K / C := ⟨_, rfl⟩
  have hx9 : x ≤ 10 := by rw [hx]; exact Nat.le_trans (Nat.mod_le _ _) (by omega)
  have hy9 : y ≤ 10 := by rw [hy]; exact Nat.le_trans (Nat.div_le_self _ _) (by omega)
  have hxm : x * R ≤ 40 := Nat.mul_le_mul hx9 s2
  have hsig : sig C R K = x * R + y := by rw [hx, hy]; rfl
  rw [hsig] at hpm
  obtain ⟨Z, hZ⟩ : ∃ Z, Z = pivotL (R : Int) (C : Int) xs (K : Int) := ⟨_, rfl⟩
  rw [← hZ] at hI hSp hn0 hpt hpm
  have hcell : ((xs.length - 1 : Nat) : Int) - (K : Int) = ((R * C - 1 - K : Nat) : Int) := by omega
  have hTu : ∀ h2, Keep h1.length h1 h2 → ∃ q' h', CL g lf n fn_impl_HalfTurned [.int .i64 (R : Int), .int .i64 (C : Int), q] h2 = some (q', h') ∧ OwnSl h2.length h' q' xs.reverse ∧ Keep h2.length h2 h' := fun h2 k2 => by
    have := halfTurned_calls g lf n (by omega) (R : Int) (C : Int) (hq _ k2) (by omega) (by omega)
    rw [htl] at this; exact this
  have hMi : ∀ h2, Keep h1.length h1 h2 → ∃ q' h', CL g lf n fn_impl_Mirrored [.int .i64 (R : Int), .int .i64 (C : Int), q] h2 = some (q', h') ∧ OwnSl h2.length h' q' (mir R C xs) ∧ Keep h2.length h2 h' := fun h2 k2 => by
    have := mirrored_calls g lf n (by omega) (R : Int) (C : Int) (hq _ k2) (by omega) (by omega)
    rw [hml] at this; exact this
  have hTW : ∀ h2, Keep h1.length h1 h2 → ∀ {q2 : PV}, IntSl .i64 h2 q2 xs.reverse → ∃ h', CL g lf n fn_impl_PivotCount [.int .i64 (R : Int), .int .i64 (C : Int), q2, .int .i64 (((xs.length - 1 : Nat) : Int) - (K : Int))] h2 = some (.int .i64 Z, h') ∧ Keep h2.length h2 h' := fun h2 k2 q2 i2 => by
    have := hPv n (by omega) (R : Int) (C : Int) (((xs.length - 1 : Nat) : Int) - (K : Int)) (htF _ k2) i2 (by rw [List.length_reverse]; omega) (by rw [List.length_reverse]; omega)
    rw [hcell] at this ⊢
    rw [hpt] at this; exact this
  have hMW : ∀ h2, Keep h1.length h1 h2 → ∀ {q2 : PV}, IntSl .i64 h2 q2 (mir R C xs) → ∃ h', CL g lf n fn_impl_PivotCount [.int .i64 (C : Int), .int .i64 (R : Int), q2, .int .i64 ((x * R + y : Nat) : Int)] h2 = some (.int .i64 Z, h') ∧ Keep h2.length h2 h' := fun h2 k2 q2 i2 => by
    have := hPv n (by omega) (C : Int) (R : Int) ((x * R + y : Nat) : Int) (htF _ k2) i2 (by rw [mir_length]; omega) (by rw [mir_length]; omega)
    rw [hpm] at this; exact this
  repeat (first | with_reducible refine wF ?_ | with_reducible refine wg1 rfl ?_ | with_reducible refine wpT ?_ | with_reducible refine wpv ?_ | with_reducible refine wsm ?_ | with_reducible refine wrB ?_ | with_reducible refine wx0 ?_ | with_reducible refine wx1 ?_ | with_reducible refine wx2 ?_ | with_reducible refine wx3 ?_ | with_reducible refine wbd (by assumption) ?_ | with_reducible refine wlen (by assumption) ?_ | (with_reducible refine wbd (hal _) ?_) | (with_reducible refine wcv (hI _ (by assumption)) (by assumption) hb1 fun _ _ => ?_) | (with_reducible refine wcl (hTu _ (by assumption)) (by assumption) hb1 fun _ _ _ _ _ => ?_) | (with_reducible refine wcl (hMi _ (by assumption)) (by assumption) hb1 fun _ _ _ _ _ => ?_) | (with_reducible refine wcv (hTW _ (by assumption) (OwnSl.int (by assumption))) (by assumption) hb1 fun _ _ => ?_) | (with_reducible refine wcv (hMW _ (by assumption) (OwnSl.int (by assumption))) (by assumption) hb1 fun _ _ => ?_) | (rw [← hx]) | (rw [← hy]) | with_reducible refine waddN (by omega) ?_ | with_reducible refine wsub1 (by omega) (by omega) ?_ | with_reducible refine wmulN (by omega) ?_ | with_reducible refine wquoN (by omega) (by omega) ?_ | with_reducible refine wremN (by omega) ?_ | with_reducible refine wlssF (by omega) ?_ | with_reducible refine wgtrF (by omega) ?_ | with_reducible refine weqlT (by omega) ?_ | with_reducible refine wsub (by omega) ?_ | dsimp only)
  exact W.ret rfl

set_option maxHeartbeats 1000000 in
theorem fnFillCount_calls (hFi : FillOk g lf) (hJ : JoinsOk g lf) {p : PV} {ys : List Int} {h : PHeap} (N : Nat) (hN : 45 ≤ N) (ha : Arg h p ys) (hlf : 1000 < lf) (ht : TabOk g h) :
    ∃ h', CL g lf N fn_laws_FnFillCount [p] h = some (.bool true, h') := by
  obtain ⟨n, rfl⟩ : ∃ n, N = n + 1 := ⟨N - 1, by omega⟩
  apply W.yes
  rw [laws_FnFillCount.call_eq]
  unfold laws_FnFillCount.main
  simp only [env_C, env_pick, env_buildSlice, env_load, env_store, env_bin, env_indexAddr, env_extract, env_len, env_append]
  have hlenp : lenP Tryd.prog 22 p = some (.int .i64 ys.length) := (ha.1 h (Keep.refl _ _)).len tyB
  by_cases hbig : (1048576 : Int) < (ys.length : Int)
  · repeat (first | with_reducible refine wT ?_ | with_reducible refine wrB ?_ | with_reducible refine wbd (by assumption) ?_ | with_reducible refine wgtrT (by omega) ?_)
    exact W.ret rfl
  obtain ⟨r, c, q, xs, pl, h1, e1, k1, hq0, hl, hp1, hp2⟩ := drawFillCount_W g lf n (by omega) ha (by omega)
  have htF := tabF ht k1
  have hb1 : h1.length ≤ h1.length := Nat.le_refl _
  have k0 : Keep h1.length h1 h1 := Keep.refl _ _
  have hal : ∀ h2, CL g lf n fn_laws_alive [] h2 = some (.bool true, h2) := fun h2 => alive_calls g lf n (by omega) h2
  have hq : Fix h1.length h1 q xs := hq0.fix
  have hpos : ∀ h2, Keep h1.length h1 h2 → CL g lf n fn_spec_PositionOk [.int .i64 r, .int .i64 c, q] h2 = some (.bool (posB r c xs), h2) := fun h2 k2 => specPositionOk_N g lf n (by omega) r c (hq h2 k2) (by omega) (by omega)
  have hI : ∀ h2, Keep h1.length h1 h2 → ∃ h', CL g lf n fn_impl_FillCount [.int .i64 r, .int .i64 c, q, .int .i64 pl] h2 = some (.int .i64 (countL r c xs pl), h') ∧ Keep h2.length h2 h' := fun h2 k2 => hFi n (by omega) r c pl (htF _ k2) (hq _ k2) (by omega) (by omega)
  have hSp : ∀ h2, Keep h1.length h1 h2 → ∃ h', CL g lf n fn_spec_FillCount [.int .i64 r, .int .i64 c, q, .int .i64 pl] h2 = some (.int .i64 (countL r c xs pl), h') ∧ Keep h2.length h2 h' := fun h2 k2 => specFillCount_calls g lf n (by omega) r c pl (hq _ k2) (by omega) (by omega) hlf
  have hbg := countL_big r c xs pl
  by_cases hinv : posB r c xs = false ∨ 2 < pl
  · rw [countL_none hinv] at hI hSp
    repeat (first | with_reducible refine wT ?_ | with_reducible refine wF ?_ | with_reducible refine wg1 rfl ?_ | with_reducible refine wpT ?_ | with_reducible refine wrB ?_ | with_reducible refine wx0 ?_ | with_reducible refine wx1 ?_ | with_reducible refine wx2 ?_ | with_reducible refine wx3 ?_ | with_reducible refine wbd (by assumption) ?_ | (with_reducible refine wbd (hal _) ?_) | (with_reducible refine wcv (hI _ (by assumption)) (by assumption) hb1 fun _ _ => ?_) | (with_reducible refine wcv (hSp _ (by assumption)) (by assumption) hb1 fun _ _ => ?_) | with_reducible refine wlssT (by omega) ?_ | with_reducible refine wgtrF (by omega) ?_ | with_reducible refine weqlT (by omega) ?_ | with_reducible refine wneqF (by omega) ?_ | dsimp only)
    exact W.ret rfl
  have hb : posB r c xs = true := by
    cases e : posB r c xs with
    | true => rfl
    | false => exact (hinv (.inl e)).elim
  obtain ⟨R, C, hS⟩ := sides_of hb
  obtain ⟨P, rfl⟩ := Int.eq_ofNat_of_zero_le (show 0 ≤ pl by omega)
  have hP : P = 1 ∨ P = 2 := by
    have : ¬ 2 < (P : Int) := fun hh => hinv (.inr hh)
    omega
  have hO : 3 - P = 1 ∨ 3 - P = 2 := by omega
  have e3 : (3 : Int) - (P : Int) = ((3 - P : Nat) : Int) := by omega
  obtain ⟨rfl, rfl, s1, s2, s3, s4, s9, slen, sall⟩ := id hS
  have hce := countL_eq hb hP
  have hn0 : 0 ≤ countL (R : Int) (C : Int) xs (P : Int) := by rw [hce]; omega
  have hboth := count_both hb hS hP
  have hbg2 := countL_big (R : Int) (C : Int) xs ((3 - P : Nat) : Int)
  have hnf := count_none_free hb hS hP
  have hcells := cells_count hb 0
  obtain ⟨Z, hZ⟩ : ∃ Z, Z = countL (R : Int) (C : Int) xs (P : Int) := ⟨_, rfl⟩
  obtain ⟨Y, hY⟩ : ∃ Y, Y = countL (R : Int) (C : Int) xs ((3 - P : Nat) : Int) := ⟨_, rfl⟩
  rw [← hZ] at hI hSp hbg hn0 hboth hnf
  rw [← hY] at hboth hbg2
  have hI2 : ∀ h2, Keep h1.length h1 h2 → ∃ h', CL g lf n fn_impl_FillCount [.int .i64 (R : Int), .int .i64 (C : Int), q, .int .i64 (3 - (P : Int))] h2 = some (.int .i64 Y, h') ∧ Keep h2.length h2 h' := fun h2 k2 => by
    have := hFi n (by omega) (R : Int) (C : Int) (3 - (P : Int)) (htF _ k2) (hq _ k2) (by omega) (by omega)
    rw [e3] at this ⊢
    rw [← hY] at this; exact this
  have hCe : ∀ h2, Keep h1.length h1 h2 → ∃ q' h', CL g lf n fn_impl_CellsOf [.int .i64 (R : Int), .int .i64 (C : Int), q, .int .i64 0] h2 = some (q', h') ∧ OwnSl h2.length h' q' (cellsL (R : Int) (C : Int) xs 0) ∧ Keep h2.length h2 h' := fun h2 k2 => cellsOf_calls g lf n (by omega) (R : Int) (C : Int) 0 (hq _ k2) (by omega) (by omega)
  have hJI : ∀ h2, Keep h1.length h1 h2 → ∃ h', CL g lf n fn_impl_Joins [.int .i64 (R : Int), .int .i64 (C : Int), q, .int .i64 (P : Int)] h2 = some (.bool (joinsL (R : Int) (C : Int) xs (P : Int)), h') ∧ Keep h2.length h2 h' := fun h2 k2 => hJ n (by omega) (R : Int) (C : Int) (P : Int) (htF _ k2) (hq _ k2) (by omega) (by omega)
  have hle := cellsL_length (R : Int) (C : Int) xs 0
  obtain ⟨L, hL⟩ : ∃ L, L = cellsL (R : Int) (C : Int) xs 0 := ⟨_, rfl⟩
  rw [← hL] at hcells hle hCe
  rw [← hcells] at hboth hnf
  have h1s : 1 <<< L.length = 2 ^ L.length := Nat.one_shiftLeft _
  have hfirst : 0 < L.length → ∃ j : Nat, ∃ h0 : 0 < L.length, L[0] = (j : Int) ∧ xs[j]? = some 0 := fun h0 => by
    subst hL
    obtain ⟨j, hj, hj0⟩ := free_first hb h0
    exact ⟨j, h0, hj, hj0⟩
  by_cases hz : L.length = 0
  · have hnf' := hnf hz
    cases hj : joinsL (R : Int) (C : Int) xs (P : Int) with
    | true =>
      rw [hj] at hJI hnf'
      rw [if_pos rfl] at hnf'
      repeat (first | with_reducible refine wT ?_ | with_reducible refine wF ?_ | with_reducible refine wrB ?_ | with_reducible refine wx0 ?_ | with_reducible refine wx1 ?_ | with_reducible refine wx2 ?_ | with_reducible refine wx3 ?_ | with_reducible refine wbd (by assumption) ?_ | with_reducible refine wlen (OwnSl.int (by assumption)) ?_ | (with_reducible refine weqlBB ?_) | (with_reducible refine wcv (hI _ (by assumption)) (by assumption) hb1 fun _ _ => ?_) | (with_reducible refine wcv (hSp _ (by assumption)) (by assumption) hb1 fun _ _ => ?_) | (with_reducible refine wcv (hI2 _ (by assumption)) (by assumption) hb1 fun _ _ => ?_) | (with_reducible refine wcv (hJI _ (by assumption)) (by assumption) hb1 fun _ _ => ?_) | (with_reducible refine wcl (hCe _ (by assumption)) (by assumption) hb1 fun q4 h4 o4 f4 k4 => ?_) | with_reducible refine wshl (by omega) ?_ | with_reducible refine wlssF (by omega) ?_ | with_reducible refine wgtrF (by omega) ?_ | with_reducible refine weqlT (by omega) ?_ | with_reducible refine wneqF (by omega) ?_ | with_reducible refine wadd (by omega) ?_ | with_reducible refine wsub (by omega) ?_ | dsimp only)
      exact W.ret rfl
    | false =>
      rw [hj] at hJI hnf'
      rw [if_neg (by decide)] at hnf'
      repeat (first | with_reducible refine wT ?_ | with_reducible refine wF ?_ | with_reducible refine wrB ?_ | with_reducible refine wx0 ?_ | with_reducible refine wx1 ?_ | with_reducible refine wx2 ?_ | with_reducible refine wx3 ?_ | with_reducible refine wbd (by assumption) ?_ | with_reducible refine wlen (OwnSl.int (by assumption)) ?_ | (with_reducible refine weqlBB ?_) | (with_reducible refine wcv (hI _ (by assumption)) (by assumption) hb1 fun _ _ => ?_) | (with_reducible refine wcv (hSp _ (by assumption)) (by assumption) hb1 fun _ _ => ?_) | (with_reducible refine wcv (hI2 _ (by assumption)) (by assumption) hb1 fun _ _ => ?_) | (with_reducible refine wcv (hJI _ (by assumption)) (by assumption) hb1 fun _ _ => ?_) | (with_reducible refine wcl (hCe _ (by assumption)) (by assumption) hb1 fun q4 h4 o4 f4 k4 => ?_) | with_reducible refine wshl (by omega) ?_ | with_reducible refine wlssF (by omega) ?_ | with_reducible refine wgtrF (by omega) ?_ | with_reducible refine weqlT (by omega) ?_ | with_reducible refine weqlF (by omega) ?_ | with_reducible refine wneqF (by omega) ?_ | with_reducible refine wadd (by omega) ?_ | with_reducible refine wsub (by omega) ?_ | dsimp only)
      exact W.ret rfl
  · obtain ⟨j, h0, hj, hj0⟩ := hfirst (by omega)
    have hjl : j < xs.length := (List.getElem?_eq_some_iff.1 hj0).1
    obtain ⟨sp1, sp2⟩ := count_split hb hS hP hj0
    rw [← hZ] at sp1
    have c1 := countL_big (R : Int) (C : Int) (xs.set j (P : Int)) (P : Int)
    have c2 := countL_big (R : Int) (C : Int) (xs.set j ((3 - P : Nat) : Int)) (P : Int)
    repeat (first | with_reducible refine wF ?_ | with_reducible refine wx0 ?_ | with_reducible refine wx1 ?_ | with_reducible refine wx2 ?_ | with_reducible refine wx3 ?_ | with_reducible refine wbd (by assumption) ?_ | with_reducible refine wlen (OwnSl.int (by assumption)) ?_ | (with_reducible refine wcv (hI _ (by assumption)) (by assumption) hb1 fun _ _ => ?_) | (with_reducible refine wcv (hSp _ (by assumption)) (by assumption) hb1 fun _ _ => ?_) | (with_reducible refine wcl (hCe _ (by assumption)) (by assumption) hb1 fun q4 h4 o4 f4 k4 => ?_) | with_reducible refine wshl (by omega) ?_ | with_reducible refine wlssF (by omega) ?_ | with_reducible refine wgtrF (by omega) ?_ | with_reducible refine wneqF (by omega) ?_ | with_reducible refine wsub (by omega) ?_ | dsimp only)
    obtain ⟨hA, eA, kA⟩ := hI2 _ k4
    refine wbd eA ?_
    have k1A := k4.trans (kA.mono k4.1)
    have f4' : Fix h4.length h4 q4 L := f4
    obtain ⟨v5, q5, h5, e5, e5', o5, k5⟩ := copy_all (hq _ k1A) (by omega) (by omega)
    have k45 : Keep h4.length h4 h5 := kA.trans (k5.mono kA.1)
    repeat (first | with_reducible refine wF ?_ | with_reducible refine wbd (by assumption) ?_ | with_reducible refine wlen (OwnSl.int (by assumption)) ?_ | (with_reducible refine wat0 (f4.get k45) h0 fun a hl => ?_) | with_reducible refine weqlF (by omega) ?_ | with_reducible refine wneqF (by omega) ?_ | with_reducible refine wadd (by omega) ?_ | dsimp only)
    rw [hj]
    refine wst o5 hjl fun h6 o6 k6 l6 a6 e6 => ?_
    have k46 : Keep h4.length h4 h6 := k45.trans (k6.mono kA.1)
    have k16 : Keep h1.length h1 h6 := k4.trans (k46.mono k4.1)
    obtain ⟨v7, q7, h7, e7, e7', o7, k7⟩ := copy_all (hq _ k16) (by omega) (by omega)
    have k47 : Keep h4.length h4 h7 := k46.trans (k7.mono k46.1)
    repeat (first | with_reducible refine wbd (by assumption) ?_ | (with_reducible refine wat0 (f4.get k47) h0 fun a hl => ?_) | dsimp only)
    rw [hj]
    refine wst o7 hjl fun h8 o8 k8 l8 a8 e8 => ?_
    have k68 : Keep h6.length h6 h8 := k7.trans k8
    have k18 : Keep h1.length h1 h8 := k16.trans (k68.mono k16.1)
    have o6' := o6.keep k68
    rw [e3] at o8
    obtain ⟨h9, e9, k9⟩ := hFi n (by omega) (R : Int) (C : Int) (P : Int) (htF _ k18) o6'.int (by rw [List.length_set]; omega) (by rw [List.length_set]; omega)
    have k19 := k18.trans (k9.mono k18.1)
    obtain ⟨hB, eB, kB⟩ := hFi n (by omega) (R : Int) (C : Int) (P : Int) (htF _ k19) (o8.keep k9).int (by rw [List.length_set]; omega) (by rw [List.length_set]; omega)
    repeat (first | with_reducible refine wg1 rfl ?_ | with_reducible refine wpT ?_ | with_reducible refine wpv ?_ | with_reducible refine wsm ?_ | with_reducible refine wrB ?_ | with_reducible refine wbd (by assumption) ?_ | with_reducible refine wgeqT (by omega) ?_ | with_reducible refine weqlT (by omega) ?_ | with_reducible refine wadd (by omega) ?_ | dsimp only)
    exact W.ret rfl

end Go.Proofs.YtfgjbfaapbhppaaDoor

/- The laws of chapter 5, on: promises 28 and 32. -/
namespace Go.Proofs.YtfgjbfaapbhppaaDoor
open Go Go.Ip G

variable (g : Nat → PV) (lf n : Nat)

set_option maxHeartbeats 1000000 in
theorem fnFillMirror_calls (hFi : FillOk g lf) {p : PV} {ys : List Int} {h : PHeap} (N : Nat) (hN : 45 ≤ N) (ha : Arg h p ys) (hlf : 1000 < lf) (ht : TabOk g h) :
    ∃ h', CL g lf N fn_laws_FnFillMirror [p] h = some (.bool true, h') := by
  obtain ⟨n, rfl⟩ : ∃ n, N = n + 1 := ⟨N - 1, by omega⟩
  apply W.yes
  rw [laws_FnFillMirror.call_eq]
  unfold laws_FnFillMirror.main
  simp only [env_C, env_pick, env_bin, env_make, env_extract, env_len, env_min]
  have hlenp : lenP Tryd.prog 22 p = some (.int .i64 ys.length) := (ha.1 h (Keep.refl _ _)).len tyB
  by_cases hbig : (1048576 : Int) < (ys.length : Int)
  · repeat (first | with_reducible refine wT ?_ | with_reducible refine wrB ?_ | with_reducible refine wbd (by assumption) ?_ | with_reducible refine wgtrT (by omega) ?_)
    exact W.ret rfl
  obtain ⟨r, c, q, xs, pl, h1, e1, k1, hq0, hl, hp1, hp2⟩ := drawFillCount_W g lf n (by omega) ha (by omega)
  have htF := tabF ht k1
  have hb1 : h1.length ≤ h1.length := Nat.le_refl _
  have k0 : Keep h1.length h1 h1 := Keep.refl _ _
  have hal : ∀ h2, CL g lf n fn_laws_alive [] h2 = some (.bool true, h2) := fun h2 => alive_calls g lf n (by omega) h2
  have hq : Fix h1.length h1 q xs := hq0.fix
  have hpos : ∀ h2, Keep h1.length h1 h2 → CL g lf n fn_spec_PositionOk [.int .i64 r, .int .i64 c, q] h2 = some (.bool (posB r c xs), h2) := fun h2 k2 => specPositionOk_N g lf n (by omega) r c (hq h2 k2) (by omega) (by omega)
  have hI : ∀ h2, Keep h1.length h1 h2 → ∃ h', CL g lf n fn_impl_FillCount [.int .i64 r, .int .i64 c, q, .int .i64 pl] h2 = some (.int .i64 (countL r c xs pl), h') ∧ Keep h2.length h2 h' := fun h2 k2 => hFi n (by omega) r c pl (htF _ k2) (hq _ k2) (by omega) (by omega)
  have hSp : ∀ h2, Keep h1.length h1 h2 → ∃ h', CL g lf n fn_spec_FillCount [.int .i64 r, .int .i64 c, q, .int .i64 pl] h2 = some (.int .i64 (countL r c xs pl), h') ∧ Keep h2.length h2 h' := fun h2 k2 => specFillCount_calls g lf n (by omega) r c pl (hq _ k2) (by omega) (by omega) hlf
  have hbg := countL_big r c xs pl
  by_cases hinv : posB r c xs = false ∨ 2 < pl
  · rw [countL_none hinv] at hI hSp
    repeat (first | with_reducible refine wT ?_ | with_reducible refine wF ?_ | with_reducible refine wg1 rfl ?_ | with_reducible refine wpT ?_ | with_reducible refine wrB ?_ | with_reducible refine wx0 ?_ | with_reducible refine wx1 ?_ | with_reducible refine wx2 ?_ | with_reducible refine wx3 ?_ | with_reducible refine wbd (by assumption) ?_ | (with_reducible refine wbd (hal _) ?_) | (with_reducible refine wcv (hI _ (by assumption)) (by assumption) hb1 fun _ _ => ?_) | (with_reducible refine wcv (hSp _ (by assumption)) (by assumption) hb1 fun _ _ => ?_) | with_reducible refine wlssT (by omega) ?_ | with_reducible refine wgtrF (by omega) ?_ | with_reducible refine weqlT (by omega) ?_ | dsimp only)
    exact W.ret rfl
  have hb : posB r c xs = true := by
    cases e : posB r c xs with
    | true => rfl
    | false => exact (hinv (.inl e)).elim
  obtain ⟨R, C, hS⟩ := sides_of hb
  obtain ⟨P, rfl⟩ := Int.eq_ofNat_of_zero_le (show 0 ≤ pl by omega)
  have hP : P = 1 ∨ P = 2 := by
    have : ¬ 2 < (P : Int) := fun hh => hinv (.inr hh)
    omega
  have hO : 3 - P = 1 ∨ 3 - P = 2 := by omega
  have e3 : (3 : Int) - (P : Int) = ((3 - P : Nat) : Int) := by omega
  obtain ⟨rfl, rfl, s1, s2, s3, s4, s9, slen, sall⟩ := id hS
  have hce := countL_eq hb hP
  have hn0 : 0 ≤ countL (R : Int) (C : Int) xs (P : Int) := by rw [hce]; omega
  have hml : mirL (R : Int) (C : Int) xs = mir R C xs := by unfold mirL; rw [hb]; rfl
  have hbm := posB_mir hS hb
  have hcm := count_mirrored hb hS hP hbm
  obtain ⟨m, hm, hmR, hmC⟩ : ∃ m : Nat, foldP minP2 (.int .i64 (R : Int)) [.int .i64 (C : Int)] = some (.int .i64 (m : Int)) ∧ (m = R ∨ m = C) ∧ m ≤ R ∧ m ≤ C := by
    by_cases hh : (C : Int) < (R : Int)
    · exact ⟨C, by show (minP2 (.int .i64 (R : Int)) (.int .i64 (C : Int))).bind _ = _; simp [minP2, hh, foldP], .inr rfl, by omega, Nat.le_refl _⟩
    · exact ⟨R, by show (minP2 (.int .i64 (R : Int)) (.int .i64 (C : Int))).bind _ = _; simp [minP2, hh, foldP], .inl rfl, Nat.le_refl _, by omega⟩
  have hmm : m * m ≤ R * C := Nat.mul_le_mul hmC.1 hmC.2
  have hBm : BoardOf m m := by
    obtain ⟨b1, b2, b3, b4, b9⟩ := board_of_sides hS
    rcases hmR with rfl | rfl
    · exact ⟨b1, b2, b1, b2, by omega⟩
    · exact ⟨b3, b4, b3, b4, by omega⟩
  have hsq := square_half hBm hP
  have h1s : 1 <<< (m * m) = 2 ^ (m * m) := Nat.one_shiftLeft _
  have hpow : 2 ^ (m * m) ≤ 512 := Nat.le_trans (Nat.pow_le_pow_right (n := 2) (by decide) (show m * m ≤ 9 by omega)) (by decide)
  obtain ⟨Z, hZ⟩ : ∃ Z, Z = countL (R : Int) (C : Int) xs (P : Int) := ⟨_, rfl⟩
  rw [← hZ] at hI hSp hbg hn0 hcm
  have hMi : ∀ h2, Keep h1.length h1 h2 → ∃ q' h', CL g lf n fn_impl_Mirrored [.int .i64 (R : Int), .int .i64 (C : Int), q] h2 = some (q', h') ∧ OwnSl h2.length h' q' (mir R C xs) ∧ Keep h2.length h2 h' := fun h2 k2 => by
    have := mirrored_calls g lf n (by omega) (R : Int) (C : Int) (hq _ k2) (by omega) (by omega)
    rw [hml] at this; exact this
  have hMW : ∀ h2, Keep h1.length h1 h2 → ∀ {q2 : PV}, IntSl .i64 h2 q2 (mir R C xs) → ∃ h', CL g lf n fn_impl_FillCount [.int .i64 (C : Int), .int .i64 (R : Int), q2, .int .i64 (3 - (P : Int))] h2 = some (.int .i64 Z, h') ∧ Keep h2.length h2 h' := fun h2 k2 q2 i2 => by
    have := hFi n (by omega) (C : Int) (R : Int) (3 - (P : Int)) (htF _ k2) i2 (by rw [mir_length]; omega) (by rw [mir_length]; omega)
    rw [e3] at this ⊢
    rw [hcm] at this; exact this
  obtain ⟨Y, hY⟩ : ∃ Y, Y = countL (m : Int) (m : Int) (freeL m m) (P : Int) := ⟨_, rfl⟩
  have hbg2 := countL_big (m : Int) (m : Int) (freeL m m) (P : Int)
  rw [← hY] at hsq hbg2
  have hfl : (freeL m m).length = m * m := by simp [freeL]
  repeat (first | with_reducible refine wF ?_ | with_reducible refine wg1 rfl ?_ | with_reducible refine wpv ?_ | with_reducible refine wsm ?_ | with_reducible refine wx0 ?_ | with_reducible refine wx1 ?_ | with_reducible refine wx2 ?_ | with_reducible refine wx3 ?_ | with_reducible refine wbd (by assumption) ?_ | (with_reducible refine wbd (hal _) ?_) | (with_reducible refine wcv (hI _ (by assumption)) (by assumption) hb1 fun _ _ => ?_) | (with_reducible refine wmake (m := m * m) (by omega) fun q5 h5 o5 k5 => ?_) | with_reducible refine wmulN (by omega) ?_ | with_reducible refine wlssF (by omega) ?_ | with_reducible refine wgtrF (by omega) ?_ | with_reducible refine wsub (by omega) ?_ | dsimp only)
  rename_i h4 k4
  have k15 : Keep h1.length h1 h5 := k4.trans (k5.mono k4.1)
  obtain ⟨q6, h6, e6, o6, k6⟩ := hMi h5 k15
  have k16 := k15.trans (k6.mono k15.1)
  obtain ⟨h7, e7, k7⟩ := hMW h6 k16 o6.int
  have k17 := k16.trans (k7.mono k16.1)
  have o7 : OwnSl _ h7 q5 (freeL m m) := (o5.keep k6).keep k7
  obtain ⟨h8, e8, k8⟩ := hFi n (by omega) (m : Int) (m : Int) (P : Int) (htF _ k17) o7.int (by omega) (by omega)
  rw [← hY] at e8
  repeat (first | with_reducible refine wg1 rfl ?_ | with_reducible refine wpT ?_ | with_reducible refine wpv ?_ | with_reducible refine wsm ?_ | with_reducible refine wrB ?_ | with_reducible refine wbd (by assumption) ?_ | with_reducible refine wmulN (by omega) ?_ | with_reducible refine wshl (by omega) ?_ | with_reducible refine weqlT (by omega) ?_ | with_reducible refine wmul (by omega) ?_ | dsimp only)
  exact W.ret rfl

set_option maxHeartbeats 1000000 in
theorem fnDeadCells_calls (hD : DeadOk g lf) (hW : WinnerOk g lf) {p : PV} {ys : List Int} {h : PHeap} (N : Nat) (hN : 45 ≤ N) (ha : Arg h p ys) (hlf : 1000 < lf) (ht : TabOk g h) :
    ∃ h', CL g lf N fn_laws_FnDeadCells [p] h = some (.bool true, h') := by
  obtain ⟨n, rfl⟩ : ∃ n, N = n + 1 := ⟨N - 1, by omega⟩
  apply W.yes
  rw [laws_FnDeadCells.call_eq]
  unfold laws_FnDeadCells.main
  simp only [env_C, env_lf, env_bin, env_un, env_extract, env_len]
  have hlenp : lenP Tryd.prog 22 p = some (.int .i64 ys.length) := (ha.1 h (Keep.refl _ _)).len tyB
  by_cases hbig : (1048576 : Int) < (ys.length : Int)
  · repeat (first | with_reducible refine wT ?_ | with_reducible refine wrB ?_ | with_reducible refine wbd (by assumption) ?_ | with_reducible refine wgtrT (by omega) ?_)
    exact W.ret rfl
  obtain ⟨r, c, q, xs, h1, e1, k1, hq0, hl⟩ := drawDeadCells_W g lf n (by omega) ha (by omega)
  have htF := tabF ht k1
  have hb1 : h1.length ≤ h1.length := Nat.le_refl _
  have k0 : Keep h1.length h1 h1 := Keep.refl _ _
  have hal : ∀ h2, CL g lf n fn_laws_alive [] h2 = some (.bool true, h2) := fun h2 => alive_calls g lf n (by omega) h2
  have hq : Fix h1.length h1 q xs := hq0.fix
  have hpos : ∀ h2, Keep h1.length h1 h2 → CL g lf n fn_spec_PositionOk [.int .i64 r, .int .i64 c, q] h2 = some (.bool (posB r c xs), h2) := fun h2 k2 => specPositionOk_N g lf n (by omega) r c (hq h2 k2) (by omega) (by omega)
  obtain ⟨q2, h2, e2, o2, k2⟩ := hD n (by omega) r c (htF _ k0) (hq _ k0) (by omega) (by omega)
  obtain ⟨q3, h3, e3, o3, k3⟩ := specDeadCells_calls g lf n (by omega) r c (hq _ k2) (by omega) (by omega) hlf
  have k13 := k2.trans (k3.mono k2.1)
  have hll := deadL_length r c xs
  have e4 := sameInts_N g lf n (by omega) (o2.keep k3).int o3.int (by omega) (by omega)
  rw [decide_eq_true rfl] at e4
  have o2' := o2.keep k3
  have hlen := o2'.int.len'
  have f2 : Fix h3.length h3 q2 (deadL r c xs) := o2'.int.fix
  by_cases hz : (deadL r c xs).length = 0
  · repeat (first | with_reducible refine wT ?_ | with_reducible refine wF ?_ | with_reducible refine wnT ?_ | with_reducible refine wrB ?_ | with_reducible refine wx0 ?_ | with_reducible refine wx1 ?_ | with_reducible refine wx2 ?_ | with_reducible refine wbd (by assumption) ?_ | (with_reducible refine wbd (hal _) ?_) | with_reducible refine wgtrF (by omega) ?_ | with_reducible refine weqlT (by omega) ?_ | dsimp only)
    exact W.ret rfl
  have hb : posB r c xs = true := by
    cases e : posB r c xs with
    | true => rfl
    | false => rw [deadL_none e] at hz; exact (hz rfl).elim
  obtain ⟨R, C, hS⟩ := sides_of hb
  obtain ⟨rfl, rfl, s1, s2, s3, s4, s9, slen, sall⟩ := id hS
  have hpos1 : 1 ≤ xs.length := by rw [slen]; exact Nat.mul_pos s1 s3
  have hsort := deadL_sorted (R : Int) (C : Int) xs
  obtain ⟨d, hd, hdd⟩ := deadL_mem.1 (List.getElem_mem (show 0 < (deadL (R : Int) (C : Int) xs).length by omega))
  have hd0 := ((dead_iff hb hS).1 hdd).1
  have hdl : d < xs.length := (List.getElem?_eq_some_iff.1 hd0).1
  have hb3 : h3.length ≤ h3.length := Nat.le_refl _
  have hq3 : Fix h3.length h3 q xs := hq.re k13 hb1
  have htF3 : ∀ hh, Keep h3.length h3 hh → TabOk g hh := fun hh kk => htF hh (k13.trans (kk.mono k13.1))
  repeat (first | with_reducible refine wF ?_ | with_reducible refine wnT ?_ | with_reducible refine wx0 ?_ | with_reducible refine wx1 ?_ | with_reducible refine wx2 ?_ | with_reducible refine wbd (by assumption) ?_ | with_reducible refine wgtrF (by omega) ?_ | with_reducible refine weqlF (by omega) ?_ | dsimp only)
  refine loopW (fun m s => ∃ (P : Nat) (h4 : PHeap), s = laws_FnDeadCells.st0 (.int .i64 (R : Int)) (.int .i64 (C : Int)) q q2 (.int .i64 (P : Int)) h4 ∧ P + m = 3 ∧ 1 ≤ P ∧ Keep h3.length h3 h4) ?_ lf 2 _ (by omega) ⟨1, h3, rfl, rfl, Nat.le_refl _, Keep.refl _ _⟩
  rintro n1 m s ⟨P, h4, rfl, hPm, hP1, k4⟩ next
  rw [laws_FnDeadCells.body0_eq]
  unfold laws_FnDeadCells.body0
  simp only [env_lf, env_buildSlice, env_load, env_store, env_bin, env_indexAddr, env_append]
  cases m with
  | zero =>
    have easc := ascend_calls g lf n (by omega) (f2 _ k4) (sorted_get hsort) (by omega) (by omega)
    repeat (first | with_reducible refine wF ?_ | with_reducible refine wrB ?_ | with_reducible refine wbd (by assumption) ?_ | with_reducible refine wleqF (by omega) ?_ | rw [kLoop_exit] | rw [laws_FnDeadCells.after0_se0_3_4_5_6_7_37] | dsimp only | simp only [env_C, env_g, env_lf, env_pick, env_alloc, env_box, env_build, env_buildSlice, env_load, env_store, env_ptr, env_bin, env_un, env_conv, env_make, env_slice, env_fieldAddr, env_field, env_indexAddr, env_index, env_extract, env_len, env_append, env_max, env_min, env_makeMap, env_lookup, env_update])
    exact W.ret rfl
  | succ m =>
    have hP : P = 1 ∨ P = 2 := by omega
    obtain ⟨v5, q5, h5, e5, e5', o5, k5⟩ := copy_all (hq3 _ k4) (by omega) (by omega)
    have k35 : Keep h3.length h3 h5 := k4.trans (k5.mono k4.1)
    repeat (first | with_reducible refine wT ?_ | with_reducible refine wbd (by assumption) ?_ | (with_reducible refine wat0 (f2.get k35) (by omega) fun a hl => ?_) | with_reducible refine wleqT (by omega) ?_ | dsimp only)
    rw [hd]
    refine wst o5 hdl fun h6 o6 k6 l6 a6 e6 => ?_
    have k46 : Keep h4.length h4 h6 := k5.trans k6
    have k36 : Keep h3.length h3 h6 := k4.trans (k46.mono k4.1)
    have hsl : (xs.set d (P : Int)).length = xs.length := List.length_set ..
    have hq5 : Fix h6.length h6 q5 (xs.set d (P : Int)) := o6.int.fix
    refine loopW (fun m2 s => ∃ (T : Nat) (h7 : PHeap), s = laws_FnDeadCells.st1 (.int .i64 (R : Int)) (.int .i64 (C : Int)) q q2 (.int .i64 (P : Int)) q5 (.int .i64 (T : Int)) h7 ∧ T + m2 = 3 ∧ 1 ≤ T ∧ Keep h6.length h6 h7) ?_ lf 2 _ (by omega) ⟨1, h6, rfl, rfl, Nat.le_refl _, Keep.refl _ _⟩
    rintro n2 m2 s ⟨T, h7, rfl, hTm, hT1, k67⟩ next2
    have k37 : Keep h3.length h3 h7 := k36.trans (k67.mono k36.1)
    rw [laws_FnDeadCells.body1_eq]
    unfold laws_FnDeadCells.body1
    simp only [env_C, env_bin]
    cases m2 with
    | succ m2 =>
      have hT : T = 1 ∨ T = 2 := by omega
      have hwd := dead_winL hb hS hP hT hdd
      obtain ⟨h8, e8, k8⟩ := hW n (by omega) (R : Int) (C : Int) (T : Int) (htF3 _ k37) (hq5 _ k67) (by omega) (by omega)
      rw [hwd] at e8
      have k38 := k37.trans (k8.mono k37.1)
      obtain ⟨h9, e9, k9⟩ := hW n (by omega) (R : Int) (C : Int) (T : Int) (htF3 _ k38) (hq3 _ k38) (by omega) (by omega)
      repeat (first | with_reducible refine wT ?_ | with_reducible refine wF ?_ | with_reducible refine wbd (by assumption) ?_ | with_reducible refine wadd1 (by omega) ?_ | with_reducible refine wleqT (by omega) ?_ | with_reducible refine wneqF (by omega) ?_ | dsimp only)
      exact next2 _ _ (Nat.lt_succ_self m2) ⟨T + 1, h9, rfl, by omega, by omega, (k67.trans (k8.mono k67.1)).trans (k9.mono (Nat.le_trans k67.1 k8.1))⟩
    | zero =>
      obtain ⟨q8, h8, e8, o8, k8⟩ := hD n (by omega) (R : Int) (C : Int) (htF3 _ k37) (hq5 _ k67) (by omega) (by omega)
      have k38 := k37.trans (k8.mono k37.1)
      have hl8 := deadL_length (R : Int) (C : Int) (xs.set d (P : Int))
      repeat (first | with_reducible refine wF ?_ | with_reducible refine wbd (by assumption) ?_ | (rw [laws_FnDeadCells.after1_se2_3_4_5_6_7_8_9_50]) | with_reducible refine wleqF (by omega) ?_ | rw [kLoop_exit] | dsimp only | simp only [env_C, env_g, env_lf, env_pick, env_alloc, env_box, env_build, env_buildSlice, env_load, env_store, env_ptr, env_bin, env_un, env_conv, env_make, env_slice, env_fieldAddr, env_field, env_indexAddr, env_index, env_extract, env_len, env_append, env_max, env_min, env_makeMap, env_lookup, env_update])
      refine loopW (fun m3 s => ∃ i : Nat, s = laws_FnDeadCells.st2 (.int .i64 (R : Int)) (.int .i64 (C : Int)) q q2 (.int .i64 (P : Int)) q8 (.int .i64 (i : Int)) h8 ∧ i + m3 = (deadL (R : Int) (C : Int) xs).length ∧ 1 ≤ i) ?_ lf ((deadL (R : Int) (C : Int) xs).length - 1) _ (by omega) ⟨1, rfl, by omega, Nat.le_refl _⟩
      rintro n3 m3 s ⟨i, rfl, him, hi1⟩ next3
      have hl28 := (f2 _ k38).len'
      rw [laws_FnDeadCells.body2_eq]
      unfold laws_FnDeadCells.body2
      simp only [env_C, env_load, env_bin, env_un, env_indexAddr, env_len]
      cases m3 with
      | zero =>
        repeat (first | with_reducible refine wF ?_ | with_reducible refine wbd (by assumption) ?_ | (rw [laws_FnDeadCells.after2_se4_3_4_5_6_7_10_11_71]) | with_reducible refine wadd1 (by omega) ?_ | with_reducible refine wlssF (by omega) ?_ | rw [kLoop_exit] | simp only [env_C, env_g, env_lf, env_pick, env_alloc, env_box, env_build, env_buildSlice, env_load, env_store, env_ptr, env_bin, env_un, env_conv, env_make, env_slice, env_fieldAddr, env_field, env_indexAddr, env_index, env_extract, env_len, env_append, env_max, env_min, env_makeMap, env_lookup, env_update])
        exact next m _ (Nat.lt_succ_self m) ⟨P + 1, h8, rfl, by omega, by omega, k38⟩
      | succ m3 =>
        have hi : i < (deadL (R : Int) (C : Int) xs).length := by omega
        obtain ⟨e, he, hde⟩ := deadL_mem.1 (List.getElem_mem hi)
        have hlt := List.pairwise_iff_getElem.1 hsort 0 i (by omega) hi (by omega)
        rw [hd, he] at hlt
        have hst := dead_stays hb hS hP hd0 hde (by omega)
        have hha := hasInt_N g lf n (by omega) (e : Int) o8.int (by omega) (by omega)
        rw [dead_in, hst] at hha
        repeat (first | with_reducible refine wT ?_ | with_reducible refine wbd (by assumption) ?_ | (with_reducible refine wat (f2.get k38) hi fun a hl => ?_) | with_reducible refine wlssT (by omega) ?_)
        rw [he]
        repeat (first | with_reducible refine wF ?_ | with_reducible refine wnT ?_ | with_reducible refine wbd (by assumption) ?_ | with_reducible refine wadd1 (by omega) ?_ | dsimp only)
        exact next3 _ _ (Nat.lt_succ_self m3) ⟨i + 1, rfl, by omega, by omega⟩

end Go.Proofs.YtfgjbfaapbhppaaDoor

/- The program's chapter 2: Joins, GapOf, GroupOf, Filled and GapCells compute what the model's do. -/
namespace Go.Proofs.YtfgjbfaapbhppaaDoor
open Go Go.Ip G

variable (g : Nat → PV) (lf n : Nat)

theorem joinsOk (hlf : 1000 < lf) : JoinsOk g lf := by
  intro N hN r c pl xs p h ht hp hl hf
  obtain ⟨n, rfl⟩ : ∃ n, N = n + 1 := ⟨N - 1, by omega⟩
  have ht' : Tab g h := ht.1
  have hpos := positionOk_N g lf n (by omega) r c hp (by omega) hf
  have hplay := playerOk_W g lf n (by omega) h pl
  have : W (CL g lf (n + 1) fn_impl_Joins [.int .i64 r, .int .i64 c, p, .int .i64 pl] h) fun v h' => v = .bool (joinsL r c xs pl) ∧ Keep h.length h h' := by
    rw [impl_Joins.call_eq]
    unfold impl_Joins.main
    simp only [env_C, env_pick, env_bin, env_un, env_extract]
    unfold joinsL
    cases hb : posB r c xs with
    | false =>
      rw [hb] at hpos
      repeat (first | with_reducible refine wT ?_ | with_reducible refine wg0 rfl ?_ | with_reducible refine wpT ?_ | with_reducible refine wnF ?_ | with_reducible refine wsm ?_ | with_reducible refine wrB ?_ | with_reducible refine wbd (by assumption) ?_ | dsimp only)
      exact W.ret ⟨rfl, Keep.refl _ _⟩
    | true =>
      rw [hb] at hpos
      cases hpl : playerB pl with
      | false =>
        rw [hpl] at hplay
        repeat (first | with_reducible refine wT ?_ | with_reducible refine wg1 rfl ?_ | with_reducible refine wpF ?_ | with_reducible refine wnT ?_ | with_reducible refine wnF ?_ | with_reducible refine wpv ?_ | with_reducible refine wsm ?_ | with_reducible refine wrB ?_ | with_reducible refine wbd (by assumption) ?_ | dsimp only)
        exact W.ret ⟨rfl, Keep.refl _ _⟩
      | true =>
        rw [hpl] at hplay
        obtain ⟨R, C, hS⟩ := sides_of hb
        obtain ⟨P, rfl, hP⟩ := player_of hpl
        have hB := board_of_sides hS
        obtain ⟨rfl, rfl, _, _, _, _, h9, hlen, _⟩ := id hS
        have hst := set_lt9 hS (P : Int)
        have e1 := sidesOf_W g lf hB hP n (by omega) hlf h
        have e2 := setOf_W g lf (P : Int) hp (by omega) n (by omega) hlf
        have s1 := sideN_lt (P := P) (last := false) hB
        have s2 := sideN_lt (P := P) (last := true) hB
        have a1 : sideN R C P false &&& setL xs (P : Int) < 2 ^ 9 := Nat.and_lt_two_pow _ hst
        obtain ⟨h1, e3, k1⟩ := grown_W g lf hB a1 hst n (by omega) hlf ht'
        rw [grown_in] at e3
        have hgl := grow_lt (M := masksN R C) (fr := sideN R C P false) hst
        have hgl2 : growN (masksN R C) (setL xs (P : Int)) (sideN R C P false) &&& sideN R C P true < 2 ^ 9 := Nat.and_lt_two_pow _ s2
        repeat (first | with_reducible refine wF ?_ | with_reducible refine wg1 rfl ?_ | with_reducible refine wpF ?_ | with_reducible refine wnT ?_ | with_reducible refine wpv ?_ | with_reducible refine wsm ?_ | with_reducible refine wx0 ?_ | with_reducible refine wx1 ?_ | with_reducible refine wbd (by assumption) ?_ | with_reducible refine wand (by omega) (by omega) ?_ | dsimp only)
        show W _ fun v h' => v = .bool (true && true && joinsN R C P (setL xs (P : Int))) ∧ Keep h.length h h'
        unfold joinsN
        refine wneq (fun e => ?_) (fun e => ?_)
        · repeat (first | with_reducible refine wrB ?_)
          refine W.ret ⟨?_, k1⟩
          rw [decide_eq_false (by omega)]; rfl
        · repeat (first | with_reducible refine wrB ?_)
          refine W.ret ⟨?_, k1⟩
          rw [decide_eq_true (by omega)]; rfl
  obtain ⟨_, h', e, rfl, k⟩ := this
  exact ⟨h', e, k⟩

/-- The cells that close a gap, out of the list of the free cells. -/
theorem gapCells_list {R C P : Nat} {xs : List Int} (hb : posB (R : Int) (C : Int) xs = true) (hS : Sides (R : Int) (C : Int) R C xs) (hP : P = 1 ∨ P = 2) {G : Nat} (hG : gapL (R : Int) (C : Int) xs (P : Int) = (G : Int)) (h0 : 0 < G) :
    gapCellsL (R : Int) (C : Int) xs (P : Int) = (listN (setL xs 0)).filter fun k => decide (gapN (masksN R C) (setL xs (P : Int) ||| (1 <<< k.toNat)) (without (setL xs 0) k.toNat) (sideN R C P false) (sideN R C P true) (R * C) < (G : Int)) := by
  have hpos : 0 < gapL (R : Int) (C : Int) xs (P : Int) := by rw [hG]; omega
  have hgn := gapL_eq hb hP
  have hIs : IsGap (masksN R C) (setL xs (P : Int)) (setL xs 0) (sideN R C P false) (sideN R C P true) G := by
    rcases gap_spec (P := P) hS with ⟨k, h1, h2⟩ | ⟨h1, _⟩
    · have : k = G := by rw [← hgn, hG] at h1; omega
      exact this ▸ h2
    · rw [← hgn, hG] at h1; omega
  unfold gapCellsL
  rw [if_pos hpos, listN_filter, List.filter_map, List.filter_filter]
  congr 1
  have hx9 : xs.length ≤ 9 := by have := hS.2.2.2.2.2.2.2.1; have := hS.2.2.2.2.2.2.1; omega
  have h9 : List.range 9 = List.range xs.length ++ (List.range' xs.length (9 - xs.length)) := by
    rw [List.range_eq_range', List.range_eq_range', show 9 = xs.length + (9 - xs.length) by omega, ← List.range'_append_1]; simp
  rw [h9, List.filter_append]
  have hnil : (List.range' xs.length (9 - xs.length)).filter (fun k => ((fun k : Int => decide (gapN (masksN R C) (setL xs (P : Int) ||| (1 <<< k.toNat)) (without (setL xs 0) k.toNat) (sideN R C P false) (sideN R C P true) (R * C) < (G : Int))) ∘ fun k : Nat => (k : Int)) k && (setL xs 0).testBit k) = [] := by
    rw [List.filter_eq_nil_iff]
    intro k hk
    rw [List.mem_range'_1] at hk
    have : (setL xs 0).testBit k = false := by
      cases e : (setL xs 0).testBit k with
      | false => rfl
      | true => have := set_in hS e; have := hS.2.2.2.2.2.2.2.1; omega
    simp [this]
  rw [hnil, List.append_nil]
  apply List.filter_congr
  intro k hk
  rw [List.mem_range] at hk
  have hgd : xs.getD k 0 = xs[k] := by rw [List.getD_eq_getElem?_getD, List.getElem?_eq_getElem hk]; rfl
  have hbit : (setL xs 0).testBit k = decide (xs.getD k 0 = 0) := by
    rw [Bool.eq_iff_iff, setL_bit, decide_eq_true_iff, hgd, List.getElem?_eq_getElem hk, Option.some.injEq]
  rw [hbit, Bool.and_comm]
  cases hz : decide (xs.getD k 0 = 0) with
  | false => rw [Bool.and_false, Bool.and_false]
  | true =>
    have hk0 : xs[k]? = some 0 := by rw [List.getElem?_eq_getElem hk, ← hgd, of_decide_eq_true hz]
    obtain ⟨m1, m2, m3⟩ := set_more hS hP hk0
    have hgs := gapL_eq (pos_set hb hP k) hP
    rw [Bool.and_true, Bool.and_true, hgs, hG]
    rw [m1, m2]
    have hst := gap_stone hS hP hk0 hIs
    rw [m1, m2] at hst
    show decide _ = decide (gapN (masksN R C) (setL xs (P : Int) ||| (1 <<< k)) (without (setL xs 0) k) (sideN R C P false) (sideN R C P true) (R * C) < (G : Int))
    apply decide_eq_decide.2
    rcases hst with h | ⟨_, h⟩ <;> rw [h] <;> omega

end Go.Proofs.YtfgjbfaapbhppaaDoor

/- The least cell of a set, as the library finds it by its table of 64 bytes; and comparing a slice with nil, copying it. -/
namespace Go.Proofs.YtfgjbfaapbhppaaDoor
open Go Go.Ip G

/-- The least number in a set of nine; nine if there is none. -/
def lowN (x : Nat) : Nat := ((List.range 9).find? fun k => x.testBit k).getD 9
def lsB (x : Nat) : Bool := x.testBit (lowN x) && decide (lowN x < 9) && (List.range (lowN x)).all (fun j => !x.testBit j) && (x &&& (x - 1) == without x (lowN x))
theorem ls_all : ((List.range 512).all fun x => x == 0 || lsB x) = true := by kernel_rfl
theorem low_ok {x : Nat} (hx : x < 2 ^ 9) (h0 : x ≠ 0) : x.testBit (lowN x) = true ∧ lowN x < 9 ∧ (∀ j, j < lowN x → x.testBit j = false) ∧ x &&& (x - 1) = without x (lowN x) := by
  have h := List.all_eq_true.1 ls_all x (List.mem_range.2 hx)
  have h1 : lsB x = true := by
    rcases Bool.or_eq_true_iff.1 h with h | h
    · exact absurd (by simpa using h) h0
    · exact h
  unfold lsB at h1
  simp only [Bool.and_eq_true, decide_eq_true_eq, beq_iff_eq] at h1
  obtain ⟨⟨⟨a, b⟩, c⟩, d⟩ := h1
  exact ⟨a, b, fun j hj => by have := List.all_eq_true.1 c j (List.mem_range.2 hj); simpa using this, d⟩

/-- What the library computes, step by step. -/
def isU (o : Option PV) (a : Nat) : Bool := match o with | some (.int .u64 (.ofNat b)) => b == a | _ => false
theorem isU_eq {o : Option PV} {a : Nat} (h : isU o a = true) : o = some (.int .u64 (a : Int)) := by
  unfold isU at h
  split at h
  · have := beq_iff_eq.1 h; subst this; rfl
  · cases h
def tz5 (x : Nat) : Nat := ((1 <<< lowN x) * 285870213051353865) % 2 ^ 64
def tz6 (x : Nat) : Nat := tz5 x / 2 ^ 58
noncomputable def tzB (x : Nat) : Bool := isU (unP .neg (.int .u64 (x : Int))) (2 ^ 64 - x) && (isU (binP Tryd.prog .and 81 (.int .u64 (x : Int)) (.int .u64 ((2 ^ 64 - x : Nat) : Int))) (1 <<< lowN x) &&
  (isU (binP Tryd.prog .mul 81 (.int .u64 ((1 <<< lowN x : Nat) : Int)) (.int .u64 285870213051353865)) (tz5 x) && (isU (binP Tryd.prog .shr 81 (.int .u64 (tz5 x : Int)) (.int .u64 58)) (tz6 x) && tab64N[tz6 x]? == some (lowN x))))
theorem tz_all : ((List.range 512).all fun x => x == 0 || tzB x) = true := by kernel_rfl
theorem tz_one {x : Nat} (hx : x < 2 ^ 9) (h0 : x ≠ 0) : tzB x = true := by
  have h := List.all_eq_true.1 tz_all x (List.mem_range.2 hx)
  rcases Bool.or_eq_true_iff.1 h with h | h
  · exact absurd (beq_iff_eq.1 h) h0
  · exact h
theorem tz_steps {x : Nat} (hx : x < 2 ^ 9) (h0 : x ≠ 0) : ∃ v3 v4 v5, ∃ i : Nat, unP .neg (.int .u64 (x : Int)) = some v3 ∧ binP Tryd.prog .and 81 (.int .u64 (x : Int)) v3 = some v4 ∧ binP Tryd.prog .mul 81 v4 (.int .u64 285870213051353865) = some v5 ∧
    binP Tryd.prog .shr 81 v5 (.int .u64 58) = some (.int .u64 (i : Int)) ∧ tab64N[i]? = some (lowN x) := by
  have h1 := tz_one hx h0
  unfold tzB at h1
  obtain ⟨a, h1⟩ := Bool.and_eq_true_iff.1 h1
  obtain ⟨b, h1⟩ := Bool.and_eq_true_iff.1 h1
  obtain ⟨c, h1⟩ := Bool.and_eq_true_iff.1 h1
  obtain ⟨d, h1⟩ := Bool.and_eq_true_iff.1 h1
  exact ⟨_, _, _, _, isU_eq a, isU_eq b, isU_eq c, isU_eq d, beq_iff_eq.1 h1⟩

theorem tyTzU : Tryd.prog.underlying 84 = some (.array 64 5) := by kernel_rfl
theorem tyTz1 : sizeT Tryd.prog 5 = some 1 := by kernel_rfl
theorem tyTzA : isAggT Tryd.prog 5 = some false := by kernel_rfl
theorem tzConv (l : Nat) (hl : l < 9) : convP Tryd.prog 5 3 (.int .u8 (l : Int)) = some (.int .i64 (l : Int)) := by
  have : convP Tryd.prog 5 3 (.int .u8 (l : Int)) = some (.int .i64 (IntKind.i64.wrap (l : Int))) := by kernel_rfl
  rw [this, wr (by omega)]
theorem tzConv2 (x : Nat) (hx : x < 2 ^ 9) : convP Tryd.prog 3 74 (.int .i64 (x : Int)) = some (.int .u64 (x : Int)) := by
  have : convP Tryd.prog 3 74 (.int .i64 (x : Int)) = some (.int .u64 (IntKind.u64.wrap (x : Int))) := by kernel_rfl
  rw [this]
  have : IntKind.u64.wrap (x : Int) = (x : Int) := by unfold IntKind.wrap; simp [IntKind.bits, IntKind.signed]; omega
  rw [this]

variable (g : Nat → PV) (lf n : Nat)

/-- The library's table is known to lie somewhere. -/
def Big (g : Nat → PV) : Prop := ∃ id, g 2 = .ptr id 0

theorem tz64_W {x : Nat} (hx : x < 2 ^ 9) (h0 : x ≠ 0) (hb : Big g) {h : PHeap} (ht : Tab64 g h) (N : Nat) (hN : 1 ≤ N) : CL g lf N fn_bits_TrailingZeros64 [.int .u64 (x : Int)] h = some (.int .i64 (lowN x : Int), h) := by
  obtain ⟨n, rfl⟩ : ∃ n, N = n + 1 := ⟨N - 1, by omega⟩
  obtain ⟨id, hg⟩ := hb
  have ho := ht id hg
  obtain ⟨v3, v4, v5, i, e3, e4, e5, e6, hi⟩ := tz_steps hx h0
  have hi64 : i < 64 := (List.getElem?_eq_some_iff.1 hi).1
  have e7 : indexAddrP Tryd.prog 84 (.ptr id 0) (.int .u64 (i : Int)) = some (.ptr id i) := by simp [indexAddrP, tyTzU, tyTz1]; omega
  have e8 : loadP Tryd.prog 5 (.ptr id i) h = some (.int .u8 (lowN x : Int)) := by
    simp [loadP, tyTzA, cellsAt, ho, PObj.get, tab64Cells, hi]
  have e9 := tzConv (lowN x) (low_ok hx h0).2.1
  have : W (CL g lf (n + 1) fn_bits_TrailingZeros64 [.int .u64 (x : Int)] h) fun v h' => v = .int .i64 (lowN x : Int) ∧ h' = h := by
    rw [bits_TrailingZeros64.call_eq]
    unfold bits_TrailingZeros64.main
    simp only [env_g, env_load, env_bin, env_un, env_conv, env_indexAddr]
    refine weqlF (by omega) ?_
    rw [hg]
    repeat (first | with_reducible refine wF ?_ | with_reducible refine wrI ?_ | with_reducible refine wbd (by assumption) ?_)
    exact W.ret ⟨rfl, rfl⟩
  obtain ⟨_, _, e, rfl, rfl⟩ := this
  exact e

theorem leastIn_W {x : Nat} (hx : x < 2 ^ 9) (h0 : x ≠ 0) (hb : Big g) {h : PHeap} (ht : Tab64 g h) (N : Nat) (hN : 3 ≤ N) : CL g lf N fn_impl_leastIn [.int .i64 (x : Int)] h = some (.int .i64 (lowN x : Int), h) := by
  obtain ⟨n, rfl⟩ : ∃ n, N = n + 1 := ⟨N - 1, by omega⟩
  obtain ⟨n, rfl⟩ : ∃ m, n = m + 1 := ⟨n - 1, by omega⟩
  have e1 := tzConv2 x hx
  have e2 := tz64_W g lf hx h0 hb ht n (by omega)
  have e3 : CL g lf (n + 1) fn_bits_TrailingZeros [.int .u64 (x : Int)] h = some (.int .i64 (lowN x : Int), h) := by
    have : W (CL g lf (n + 1) fn_bits_TrailingZeros [.int .u64 (x : Int)] h) fun v h' => v = .int .i64 (lowN x : Int) ∧ h' = h := by
      rw [bits_TrailingZeros.call_eq]
      unfold bits_TrailingZeros.main
      simp only [env_C, env_conv]
      repeat (first | with_reducible refine wF ?_ | with_reducible refine wrI ?_ | with_reducible refine wbd (by assumption) ?_ | dsimp only)
      exact W.ret ⟨rfl, rfl⟩
    obtain ⟨_, _, e, rfl, rfl⟩ := this
    exact e
  have : W (CL g lf (n + 1 + 1) fn_impl_leastIn [.int .i64 (x : Int)] h) fun v h' => v = .int .i64 (lowN x : Int) ∧ h' = h := by
    rw [impl_leastIn.call_eq]
    unfold impl_leastIn.main
    simp only [env_C, env_conv]
    repeat (first | with_reducible refine wrI ?_ | with_reducible refine wbd (by assumption) ?_ | dsimp only)
    exact W.ret ⟨rfl, rfl⟩
  obtain ⟨_, _, e, rfl, rfl⟩ := this
  exact e

/-- What a set loses with its least cell. -/
theorem f_drop {x : Nat} (hx : x < 2 ^ 9) (h0 : x ≠ 0) : binP Tryd.prog .sub 3 (.int .i64 (x : Int)) (.int .i64 1) = some (.int .i64 ((x - 1 : Nat) : Int)) ∧ binP Tryd.prog .and 3 (.int .i64 (x : Int)) (.int .i64 ((x - 1 : Nat) : Int)) = some (.int .i64 (without x (lowN x) : Int)) := by
  refine ⟨by rw [bin_sub, wr (by omega), show (x : Int) - 1 = ((x - 1 : Nat) : Int) by omega], ?_⟩
  rw [f_and (by omega) (by omega), (low_ok hx h0).2.2.2]
theorem without_lt9 {x k : Nat} (hx : x < 2 ^ 9) : without x k < 2 ^ 9 := by rw [← minusN_one]; exact minusN_lt hx
theorem without_less {x : Nat} (hx : x < 2 ^ 9) (h0 : x ≠ 0) : without x (lowN x) < x := by
  have h := (low_ok hx h0).2.2.2
  rw [← h]
  have : x &&& (x - 1) ≤ x - 1 := Nat.and_le_right
  omega

/-! ### slices.Clone -/
theorem tySlB : isSliceT Tryd.prog 23 = true := by kernel_rfl
theorem wnil {Q : PV → PHeap → Prop} {f : PV → Res} (hf : W (f (.bool true)) Q) : W ((binP Tryd.prog .eql 23 .nilsl .nilsl).bind f) Q := wbd (by simp [binP, tySlB]) hf
theorem wnilF {Q : PV → PHeap → Prop} {f : PV → Res} {i o l : Nat} (hf : W (f (.bool false)) Q) : W ((binP Tryd.prog .eql 23 (.sl i o l) .nilsl).bind f) Q := wbd (by simp [binP, tySlB]) hf

end Go.Proofs.YtfgjbfaapbhppaaDoor

/- The program's search: structs and a map on the interpreter's heap; the sets' joining; what stands after a move. -/
namespace Go.Proofs.YtfgjbfaapbhppaaDoor
open Go Go.Ip G

/-! ### objects by themselves, and what keeps all but one -/
def At (h : PHeap) (id : Nat) (l : List PV) : Prop := h[id]? = some (.own 1 l)
theorem At.lt {h : PHeap} {id : Nat} {l : List PV} (a : At h id l) : id < h.length := (List.getElem?_eq_some_iff.1 a).1
/-- All is as it was but the object m, and what is behind. -/
def KB (m : Nat) (h h' : PHeap) : Prop := h.length ≤ h'.length ∧ ∀ i, i < h.length → i ≠ m → h'[i]? = h[i]?
theorem KB.refl (m : Nat) (h : PHeap) : KB m h h := ⟨Nat.le_refl _, fun _ _ _ => rfl⟩
theorem KB.trans {m : Nat} {a b c : PHeap} (h : KB m a b) (k : KB m b c) : KB m a c := ⟨Nat.le_trans h.1 k.1, fun i hi hn => (k.2 i (Nat.lt_of_lt_of_le hi h.1) hn).trans (h.2 i hi hn)⟩
theorem Keep.kb {m : Nat} {a b : PHeap} (h : Keep a.length a b) : KB m a b := ⟨h.1, fun i hi _ => h.2 i hi⟩
theorem KB.keep {m n : Nat} {a b : PHeap} (h : KB m a b) (hm : n ≤ m) (hn : n ≤ a.length) : Keep n a b := ⟨h.1, fun i hi => h.2 i (Nat.lt_of_lt_of_le hi hn) (by omega)⟩
theorem At.keep {h h' : PHeap} {id : Nat} {l : List PV} (a : At h id l) (k : Keep h.length h h') : At h' id l := by unfold At; rw [k.2 id a.lt]; exact a
theorem At.kb {h h' : PHeap} {id m : Nat} {l : List PV} (a : At h id l) (k : KB m h h') (hn : id ≠ m) : At h' id l := by unfold At; rw [k.2 id a.lt hn]; exact a
def MapAt (h : PHeap) (m : Nat) (es : List (PV × PV)) : Prop := h[m]? = some (.mp es)
theorem MapAt.lt {h : PHeap} {m : Nat} {es : List (PV × PV)} (a : MapAt h m es) : m < h.length := (List.getElem?_eq_some_iff.1 a).1
theorem MapAt.keep {h h' : PHeap} {m : Nat} {es : List (PV × PV)} (a : MapAt h m es) (k : Keep h.length h h') : MapAt h' m es := by unfold MapAt; rw [k.2 m a.lt]; exact a
theorem MapAt.kb {h h' : PHeap} {id m : Nat} {es : List (PV × PV)} (a : MapAt h m es) (k : KB id h h') (hn : m ≠ id) : MapAt h' m es := by unfold MapAt; rw [k.2 m a.lt hn]; exact a
theorem At.ne {h : PHeap} {id m : Nat} {l : List PV} {es : List (PV × PV)} (a : At h id l) (b : MapAt h m es) : id ≠ m := by
  intro e; subst e; unfold At at a; unfold MapAt at b; rw [a] at b; cases b
theorem Fix.kb {b m : Nat} {h h' : PHeap} {p : PV} {xs : List Int} (s : Fix b h p xs) (k : KB m h h') (hb : b ≤ m) (hb2 : b ≤ h.length) : Fix b h' p xs := s.keep (k.keep hb hb2)

section
variable {Q : PV → PHeap → Prop} {h : PHeap}
/-- A new object. -/
theorem wnew {l : List PV} {x : Res} {f : PV × PHeap → Res} (hx : x = some (.ptr h.length 0, h ++ [.own 1 l])) (hf : ∀ h' id, At h' id l → Keep h.length h h' → h.length ≤ id → W (f (.ptr id 0, h')) Q) : W (x.bind f) Q := by
  rw [hx]
  exact hf _ _ (by unfold At; simp) (Keep.append _ _ _ (Nat.le_refl _)) (Nat.le_refl _)
/-- An object is written to. -/
theorem put_at {id : Nat} {l l' : List PV} (a : At h id l) : At (h.set id (.own 1 l')) id l' ∧ KB id h (h.set id (.own 1 l')) := by
  refine ⟨by unfold At; rw [List.getElem?_set_self a.lt], by simp, fun i _ hn => List.getElem?_set_ne (by omega)⟩
end

/-! ### types -/
theorem tyStA : isAggT Tryd.prog 59 = some true := by kernel_rfl
theorem tySt4 : sizeT Tryd.prog 59 = some 4 := by kernel_rfl
theorem tyStZ : zeroCellsT Tryd.prog 59 = some [.int .i64 0, .int .i64 0, .int .i64 0, .int .i64 0] := by kernel_rfl
theorem tyA3 : Tryd.prog.underlying 57 = some (.array 3 3) := by kernel_rfl
theorem tyA9 : Tryd.prog.underlying 67 = some (.array 9 3) := by kernel_rfl
theorem tyMp : Tryd.prog.underlying 66 = some (.map 59 3) := by kernel_rfl
theorem tyMpA : isAggT Tryd.prog 66 = some false := by kernel_rfl
theorem fSt0 (id : Nat) : fieldAddrP Tryd.prog 59 (.ptr id 0) 0 = some (.ptr id 0) := by kernel_rfl
theorem fSt1 (id : Nat) : fieldAddrP Tryd.prog 59 (.ptr id 0) 1 = some (.ptr id 3) := by kernel_rfl
theorem fs0 (id : Nat) : fieldAddrP Tryd.prog 69 (.ptr id 0) 0 = some (.ptr id 0) := by kernel_rfl
theorem fs1 (id : Nat) : fieldAddrP Tryd.prog 69 (.ptr id 0) 1 = some (.ptr id 9) := by kernel_rfl
theorem fs2 (id : Nat) : fieldAddrP Tryd.prog 69 (.ptr id 0) 2 = some (.ptr id 12) := by kernel_rfl
theorem fs3 (id : Nat) : fieldAddrP Tryd.prog 69 (.ptr id 0) 3 = some (.ptr id 15) := by kernel_rfl
theorem ia3 (id o i : Nat) (hi : i < 3) : indexAddrP Tryd.prog 57 (.ptr id o) (.int .i64 (i : Int)) = some (.ptr id (o + i)) := by simp [indexAddrP, tyA3, tySize]; omega
theorem ia9 (id o i : Nat) (hi : i < 9) : indexAddrP Tryd.prog 67 (.ptr id o) (.int .i64 (i : Int)) = some (.ptr id (o + i)) := by simp [indexAddrP, tyA9, tySize]; omega
theorem ld1 {h : PHeap} {id i : Nat} {l : List PV} {v : PV} (a : At h id l) (hv : l[i]? = some v) : loadP Tryd.prog 3 (.ptr id i) h = some v := by
  simp [loadP, tyAgg, cellsAt, show h[id]? = some (.own 1 l) from a, PObj.get, hv]
theorem ldM {h : PHeap} {id i : Nat} {l : List PV} {v : PV} (a : At h id l) (hv : l[i]? = some v) : loadP Tryd.prog 66 (.ptr id i) h = some v := by
  simp [loadP, tyMpA, cellsAt, show h[id]? = some (.own 1 l) from a, PObj.get, hv]
theorem st1 {h : PHeap} {id i : Nat} {l : List PV} {x : Int} (a : At h id l) (hi : i < l.length) : storeP Tryd.prog 3 (.ptr id i) (.int .i64 x) h = some (h.set id (.own 1 (l.set i (.int .i64 x)))) := by
  simp [storeP, show h[id]? = some (.own 1 l) from a, PV.cells, tySize, setCells]; omega

/-! ### what stands -/
def stC (f a b t : Nat) : List PV := [.int .i64 (f : Int), .int .i64 (a : Int), .int .i64 (b : Int), .int .i64 (t : Int)]
def stP (f a b t : Nat) : PV := .agg (stC f a b t)
theorem ldS {h : PHeap} {id f a b t : Nat} (o : At h id (stC f a b t)) : loadP Tryd.prog 59 (.ptr id 0) h = some (stP f a b t) := by
  simp [loadP, tyStA, tySt4, cellsAt, show h[id]? = some (.own 1 (stC f a b t)) from o, PObj.get, stC, stP]
theorem boxS (h : PHeap) (f a b t : Nat) : boxP (stP f a b t) h = some (.ptr h.length 0, h ++ [.own 1 (stC f a b t)]) := by simp [boxP, stP, stC, PV.cells, PV.oneCell]
theorem alS (h : PHeap) : allocP Tryd.prog 59 h = some (.ptr h.length 0, h ++ [.own 1 (stC 0 0 0 0)]) := by simp [allocP, tyStZ, stC]
theorem stS {h : PHeap} {id f a b t f' a' b' t' : Nat} (o : At h id (stC f' a' b' t')) : storeP Tryd.prog 59 (.ptr id 0) (stP f a b t) h = some (h.set id (.own 1 (stC f a b t))) := by
  simp [storeP, show h[id]? = some (.own 1 (stC f' a' b' t')) from o, stP, stC, PV.cells, PV.oneCell, tySt4, setCells]
theorem plainS {f a b t : Nat} : plainEq (stP f a b t) (stP f a b t) = true := plain_agg4

section
variable {Q : PV → PHeap → Prop} {h : PHeap} {id f a b t : Nat}
theorem wboxS {F : PV × PHeap → Res} (hf : ∀ h' id, At h' id (stC f a b t) → Keep h.length h h' → h.length ≤ id → W (F (.ptr id 0, h')) Q) : W ((boxP (stP f a b t) h).bind F) Q := wnew (boxS h f a b t) hf
theorem walS {F : PV × PHeap → Res} (hf : ∀ h' id, At h' id (stC 0 0 0 0) → Keep h.length h h' → h.length ≤ id → W (F (.ptr id 0, h')) Q) : W ((allocP Tryd.prog 59 h).bind F) Q := wnew (alS h) hf
theorem wstS {f' a' b' t' : Nat} (o : At h id (stC f' a' b' t')) {F : PHeap → Res} (hf : ∀ h', At h' id (stC f a b t) → KB id h h' → W (F h') Q) : W ((storeP Tryd.prog 59 (.ptr id 0) (stP f a b t) h).bind F) Q := by
  rw [stS o]; exact hf _ (put_at o).1 (put_at o).2
theorem wst1 {i : Nat} {l : List PV} {x : Int} (o : At h id l) (hi : i < l.length) {F : PHeap → Res} (hf : ∀ h', At h' id (l.set i (.int .i64 x)) → KB id h h' → W (F h') Q) : W ((storeP Tryd.prog 3 (.ptr id i) (.int .i64 x) h).bind F) Q := by
  rw [st1 o hi]; exact hf _ (put_at o).1 (put_at o).2
theorem wia3 {o i : Nat} (hi : i < 3) {F : PV → Res} (hf : W (F (.ptr id (o + i))) Q) : W ((indexAddrP Tryd.prog 57 (.ptr id o) (.int .i64 (i : Int))).bind F) Q := wbd (ia3 id o i hi) hf
theorem wia9 {o i : Nat} (hi : i < 9) {F : PV → Res} (hf : W (F (.ptr id (o + i))) Q) : W ((indexAddrP Tryd.prog 67 (.ptr id o) (.int .i64 (i : Int))).bind F) Q := wbd (ia9 id o i hi) hf
theorem wresSt {F : PV → Res} (hf : W (F (stP f a b t)) Q) : W ((resV (stP f a b t)).bind F) Q := hf
end

variable (g : Nat → PV) (lf n : Nat)

theorem exchanged_W (N : Nat) (hN : 1 ≤ N) (h : PHeap) {T : Nat} (hT : T = 1 ∨ T = 2) : CL g lf N fn_impl_exchanged [.int .i64 (T : Int)] h = some (.int .i64 ((3 - T : Nat) : Int), h) := by
  obtain ⟨n, rfl⟩ : ∃ n, N = n + 1 := ⟨N - 1, by omega⟩
  have : W (CL g lf (n + 1) fn_impl_exchanged [.int .i64 (T : Int)] h) fun v h' => v = .int .i64 ((3 - T : Nat) : Int) ∧ h' = h := by
    rw [impl_exchanged.call_eq]
    unfold impl_exchanged.main
    simp only [env_bin]
    rcases hT with rfl | rfl
    · repeat (first | with_reducible refine wT ?_ | with_reducible refine wrI ?_ | with_reducible refine weqlT (by omega) ?_)
      exact W.ret ⟨rfl, rfl⟩
    · repeat (first | with_reducible refine wT ?_ | with_reducible refine wF ?_ | with_reducible refine wrI ?_ | with_reducible refine weqlT (by omega) ?_ | with_reducible refine weqlF (by omega) ?_)
      exact W.ret ⟨rfl, rfl⟩
  obtain ⟨_, _, e, rfl, rfl⟩ := this
  exact e

theorem Keep.kbs {n m : Nat} {a b c : PHeap} (k : Keep n a b) (hn : n ≤ a.length) (k' : KB m b c) (hm : n ≤ m) : Keep n a c := k.trans (k'.keep hm (Nat.le_trans hn k.1))
theorem wia30 {Q : PV → PHeap → Prop} {id o : Nat} {F : PV → Res} (hf : W (F (.ptr id (o + 0))) Q) : W ((indexAddrP Tryd.prog 57 (.ptr id o) (.int .i64 0)).bind F) Q := wbd (ia3 id o 0 (by decide)) hf

theorem after_W {f a b t k : Nat} (hf : f < 2 ^ 9) (ha : a < 2 ^ 9) (hb : b < 2 ^ 9) (hk : k < 9) (ht : t = 1 ∨ t = 2) (N : Nat) (hN : 2 ≤ N) (h : PHeap) :
    W (CL g lf N fn_impl_standing_after [stP f a b t, .int .i64 (k : Int)] h) fun v h' => v = stP (without f k) (putA t k a) (putB t k b) (3 - t) ∧ Keep h.length h h' := by
  obtain ⟨n, rfl⟩ : ∃ n, N = n + 1 := ⟨N - 1, by omega⟩
  have hsl := shl_lt hk
  have e1 : ∀ h, CL g lf n fn_impl_exchanged [.int .i64 (t : Int)] h = some (.int .i64 ((3 - t : Nat) : Int), h) := fun h => exchanged_W g lf n (by omega) h ht
  rw [impl_standing_after.call_eq]
  unfold impl_standing_after.main
  simp only [env_C, env_alloc, env_box, env_load, env_store, env_bin, env_fieldAddr, env_indexAddr]
  refine wboxS fun h1 id o1 k1 l1 => ?_
  dsimp only
  refine walS fun h2 id2 o2 k2 l2 => ?_
  have o1' := o1.keep k2
  have hne : id2 ≠ id := by have := o1.lt; omega
  have kk2 : Keep h.length h h2 := k1.trans (k2.mono k1.1)
  repeat (first | (with_reducible refine wbd (fSt0 _) ?_) | (with_reducible refine wia30 ?_) | (with_reducible refine wbd (ld1 (by assumption) rfl) ?_) | with_reducible refine wshl (by omega) ?_ | with_reducible refine wandNot (by omega) (by omega) ?_ | dsimp only)
  refine wst1 o1' (show 0 + 0 < 4 by decide) fun h3 o3 k3 => ?_
  have o3 : At h3 id (stC (without f k) a b t) := o3
  have o23 := o2.kb k3 hne
  rcases ht with rfl | rfl
  · repeat (first | (with_reducible refine wbd (fSt0 _) ?_) | (with_reducible refine wbd (fSt1 _) ?_) | (with_reducible refine wia3 (by omega) ?_) | (with_reducible refine wbd (ld1 (by assumption) rfl) ?_) | with_reducible refine wshl (by omega) ?_ | with_reducible refine wor (by omega) (by omega) ?_)
    refine wst1 o3 (show 0 + 1 < 4 by decide) fun h4 o4 k4 => ?_
    have o4 : At h4 id (stC (without f k) (a ||| 1 <<< k) b 1) := o4
    have o24 := o23.kb k4 hne
    have e2 := e1 h4
    repeat (first | with_reducible refine wbd (by assumption) ?_ | (with_reducible refine wbd (fSt1 _) ?_) | (with_reducible refine wbd (ld1 (by assumption) rfl) ?_) | dsimp only)
    refine wst1 o4 (show 3 < 4 by decide) fun h5 o5 k5 => ?_
    have o5 : At h5 id (stC (without f k) (a ||| 1 <<< k) b (3 - 1)) := o5
    have o25 := o24.kb k5 hne
    repeat (first | (with_reducible refine wbd (ldS (by assumption)) ?_))
    refine wstS o25 fun h6 o6 k6 => ?_
    repeat (first | (with_reducible refine wbd (ldS (by assumption)) ?_))
    exact W.ret ⟨rfl, (((kk2.kbs (Nat.le_refl _) k3 l1).kbs (Nat.le_refl _) k4 l1).kbs (Nat.le_refl _) k5 l1).kbs (Nat.le_refl _) k6 (Nat.le_trans k1.1 l2)⟩
  · repeat (first | (with_reducible refine wbd (fSt0 _) ?_) | (with_reducible refine wbd (fSt1 _) ?_) | (with_reducible refine wia3 (by omega) ?_) | (with_reducible refine wbd (ld1 (by assumption) rfl) ?_) | with_reducible refine wshl (by omega) ?_ | with_reducible refine wor (by omega) (by omega) ?_)
    refine wst1 o3 (show 0 + 2 < 4 by decide) fun h4 o4 k4 => ?_
    have o4 : At h4 id (stC (without f k) a (b ||| 1 <<< k) 2) := o4
    have o24 := o23.kb k4 hne
    have e2 := e1 h4
    repeat (first | with_reducible refine wbd (by assumption) ?_ | (with_reducible refine wbd (fSt1 _) ?_) | (with_reducible refine wbd (ld1 (by assumption) rfl) ?_) | dsimp only)
    refine wst1 o4 (show 3 < 4 by decide) fun h5 o5 k5 => ?_
    have o5 : At h5 id (stC (without f k) a (b ||| 1 <<< k) (3 - 2)) := o5
    have o25 := o24.kb k5 hne
    repeat (first | (with_reducible refine wbd (ldS (by assumption)) ?_))
    refine wstS o25 fun h6 o6 k6 => ?_
    repeat (first | (with_reducible refine wbd (ldS (by assumption)) ?_))
    exact W.ret ⟨rfl, (((kk2.kbs (Nat.le_refl _) k3 l1).kbs (Nat.le_refl _) k4 l1).kbs (Nat.le_refl _) k5 l1).kbs (Nat.le_refl _) k6 (Nat.le_trans k1.1 l2)⟩

/-! ### a board's search -/
def nearV (R C j : Nat) : Nat := if j < R * C then wideN R C (1 <<< j) else 0
def srchV (R C : Nat) : List Nat := (List.range 9).map (nearV R C) ++ [0, sideN R C 1 false, sideN R C 2 false, 0, sideN R C 1 true, sideN R C 2 true]
def srchC (R C m : Nat) : List PV := (srchV R C).map (fun x : Nat => .int .i64 (x : Int)) ++ [.mapv m]
theorem srch_near (R C m k : Nat) (hk : k < 9) : (srchC R C m)[0 + k]? = some (.int .i64 (nearV R C k : Int)) := by
  rw [Nat.zero_add]
  unfold srchC srchV
  rw [List.map_append, List.append_assoc, List.getElem?_append_left (by simp; omega)]
  simp [hk]
theorem srch_first (R C m : Nat) {P : Nat} (hP : P = 1 ∨ P = 2) : (srchC R C m)[9 + P]? = some (.int .i64 (sideN R C P false : Int)) := by
  rcases hP with rfl | rfl <;> rfl
theorem srch_last (R C m : Nat) {P : Nat} (hP : P = 1 ∨ P = 2) : (srchC R C m)[12 + P]? = some (.int .i64 (sideN R C P true : Int)) := by
  rcases hP with rfl | rfl <;> rfl
theorem srch_map (R C m : Nat) : (srchC R C m)[15]? = some (.mapv m) := rfl

theorem nearV_lt {R C j : Nat} (hB : BoardOf R C) (hj : j < 9) : nearV R C j < 2 ^ 9 := by
  unfold nearV; split
  · exact wide_lt hB (shl_lt hj)
  · decide
theorem nearV_bit {R C k j : Nat} (hB : BoardOf R C) (hk : k < R * C) : (nearV R C k).testBit j = true ↔ j = k ∨ Adj (masksN R C) k j := by
  unfold nearV
  rw [if_pos hk, wide_bit hB, one_bit]
  constructor
  · rintro (h | ⟨i, h1, h2⟩)
    · exact .inl (by simpa using h)
    · rw [one_bit] at h1
      have : i = k := by simpa using h1
      exact .inr (this ▸ h2)
  · rintro (h | h)
    · exact .inl (by simpa using h)
    · exact .inr ⟨k, by rw [one_bit]; simp, h⟩
theorem bit_lt {x n j : Nat} (hx : x < 2 ^ n) (hj : x.testBit j = true) : j < n := by
  apply Classical.byContradiction
  intro hn
  rw [Nat.testBit_lt_two_pow (Nat.lt_of_lt_of_le hx (Nat.pow_le_pow_right (by decide) (by omega)))] at hj; cases hj

theorem joins_W {R C P own : Nat} (hB : BoardOf R C) (hP : P = 1 ∨ P = 2) (hown : own < 2 ^ (R * C)) (hbig : Big g) {h : PHeap} {s m : Nat} (hs : At h s (srchC R C m)) (ht : Tab64 g h) (N : Nat) (hN : 4 ≤ N) (hlf : 1000 < lf) :
    CL g lf N fn_impl_search_joins [.ptr s 0, .int .i64 (own : Int), .int .i64 (P : Int)] h = some (.bool (joinsN R C P own), h) := by
  obtain ⟨n, rfl⟩ : ∃ n, N = n + 1 := ⟨N - 1, by omega⟩
  have h9 := hB.2.2.2.2
  have hown9 : own < 2 ^ 9 := Nat.lt_of_lt_of_le hown (Nat.pow_le_pow_right (by decide) h9)
  have hP3 : P < 3 := by omega
  have s1 := sideN_lt (P := P) (last := false) hB
  have s2 := sideN_lt (P := P) (last := true) hB
  have hS9 : own &&& sideN R C P false < 2 ^ 9 := Nat.and_lt_two_pow _ s1
  have : W (CL g lf (n + 1) fn_impl_search_joins [.ptr s 0, .int .i64 (own : Int), .int .i64 (P : Int)] h) fun v h' => v = .bool (joinsN R C P own) ∧ h' = h := by
    rw [impl_search_joins.call_eq]
    unfold impl_search_joins.main
    simp only [env_lf, env_load, env_ptr, env_bin, env_fieldAddr, env_indexAddr]
    repeat (first | with_reducible refine wptr ?_ | (with_reducible refine wbd (fs1 _) ?_) | (with_reducible refine wia3 (by omega) ?_) | (with_reducible refine wbd (ld1 (by assumption) (srch_first _ _ _ hP)) ?_) | with_reducible refine wand (by omega) (by omega) ?_)
    obtain ⟨S, hS⟩ : ∃ S, S = own &&& sideN R C P false := ⟨_, rfl⟩
    rw [← hS] at hS9 ⊢
    have hSo : ∀ j, S.testBit j = true → own.testBit j = true := fun j hj => by
      rw [hS, Nat.testBit_and, Bool.and_eq_true] at hj; exact hj.1
    refine loopW (fun m' st => ∃ X w : Nat, st = impl_search_joins.st0 (.ptr s 0) (.int .i64 (own : Int)) (.int .i64 (P : Int)) (.int .i64 (X : Int)) (.int .i64 (w : Int)) h ∧ X < 2 ^ 9 ∧ (∀ j, w.testBit j = true → X.testBit j = true) ∧ (∀ j, X.testBit j = true → own.testBit j = true) ∧
      (∀ j, S.testBit j = true → X.testBit j = true) ∧ (∀ j, X.testBit j = true → Reach (masksN R C) (S ||| own) S j) ∧ (∀ k j, X.testBit k = true → w.testBit k = false → Adj (masksN R C) k j → own.testBit j = true → X.testBit j = true) ∧ m' = (512 - X) + (if w = 0 then 0 else 1)) ?_ lf (512 - S + (if S = 0 then 0 else 1)) _ (by split <;> omega)
      ⟨S, S, rfl, hS9, fun _ h => h, hSo, fun _ h => h, fun j hj => .start hj (by rw [Nat.testBit_or, hj]; rfl), fun k j h1 h2 _ _ => (by rw [h1] at h2; cases h2), rfl⟩
    rintro n1 m1 st ⟨X, w, rfl, hX, hw, hXo, hSX, hXr, hc, hm⟩ next
    rw [impl_search_joins.body0_eq]
    unfold impl_search_joins.body0
    simp only [env_lf, env_bin]
    by_cases e : w = 0
    · subst e
      repeat (first | with_reducible refine wF ?_ | with_reducible refine wptr ?_ | (with_reducible refine wbd (fs2 _) ?_) | (with_reducible refine wia3 (by omega) ?_) | (with_reducible refine wbd (ld1 (by assumption) (srch_last _ _ _ hP)) ?_) | with_reducible refine wand (by omega) (by omega) ?_ | with_reducible refine wneqF (by omega) ?_ | rw [kLoop_exit] | rw [impl_search_joins.after0_se0_0_1_2_7_8_21] | simp only [env_C, env_g, env_lf, env_pick, env_alloc, env_box, env_build, env_buildSlice, env_load, env_store, env_ptr, env_bin, env_un, env_conv, env_make, env_slice, env_fieldAddr, env_field, env_indexAddr, env_index, env_extract, env_len, env_append, env_max, env_min, env_makeMap, env_lookup, env_update])
      have hXg : X = growN (masksN R C) own (sideN R C P false) := by
        rw [grown_is hS9 hown9 hSX hXr fun k j h1 h2 h3 => hc k j h1 (Nat.zero_testBit _) h2 h3, hS, Nat.and_comm]
        exact grown_in
      unfold joinsN
      rw [← hXg]
      refine wneq (fun e => ?_) (fun e => ?_)
      · repeat (first | with_reducible refine wrB ?_)
        refine W.ret ⟨?_, rfl⟩
        rw [decide_eq_false (by omega)]; rfl
      · repeat (first | with_reducible refine wrB ?_)
        refine W.ret ⟨?_, rfl⟩
        rw [decide_eq_true (by omega)]; rfl
    · have hw9 : w < 2 ^ 9 := Nat.lt_of_le_of_lt (sub_le hw) hX
      have hwc : ∀ k, w.testBit k = true → k < R * C := fun k hk => bit_lt hown (hXo k (hw k hk))
      repeat (first | with_reducible refine wT ?_ | with_reducible refine wneqT (by omega) ?_)
      refine loopW (fun m' st => ∃ wd r : Nat, st = impl_search_joins.st1 (.ptr s 0) (.int .i64 (own : Int)) (.int .i64 (P : Int)) (.int .i64 (X : Int)) (.int .i64 (wd : Int)) (.int .i64 (r : Int)) h ∧ wd < 2 ^ 9 ∧ r < 2 ^ 9 ∧ (∀ j, r.testBit j = true → w.testBit j = true) ∧
        (∀ j, wd.testBit j = true ↔ ∃ k, w.testBit k = true ∧ r.testBit k = false ∧ (nearV R C k).testBit j = true) ∧ m' = r) ?_ lf w _ (by omega) ⟨0, w, rfl, by decide, hw9, fun _ h => h, fun j => ⟨fun h => (by rw [Nat.zero_testBit] at h; cases h), fun ⟨k, h1, h2, _⟩ => (by rw [h1] at h2; cases h2)⟩, rfl⟩
      rintro n2 m2 st ⟨wd, r, rfl, hwd, hr, hrw, hwb, hm2⟩ next2
      rw [impl_search_joins.body1_eq]
      unfold impl_search_joins.body1
      simp only [env_C, env_load, env_ptr, env_bin, env_fieldAddr, env_indexAddr]
      by_cases e2 : r = 0
      · subst e2
        have hal : wd &&& own < 2 ^ 9 := Nat.and_lt_two_pow _ hown9
        have hml : minusN (wd &&& own) X < 2 ^ 9 := minusN_lt hal
        repeat (first | with_reducible refine wF ?_ | with_reducible refine wand (by omega) (by omega) ?_ | with_reducible refine wor (by omega) (by omega) ?_ | with_reducible refine wandNot (by omega) (by omega) ?_ | with_reducible refine wneqF (by omega) ?_ | rw [kLoop_exit] | rw [impl_search_joins.after1_se2_0_1_2_7_9_10_24] | simp only [env_C, env_g, env_lf, env_pick, env_alloc, env_box, env_build, env_buildSlice, env_load, env_store, env_ptr, env_bin, env_un, env_conv, env_make, env_slice, env_fieldAddr, env_field, env_indexAddr, env_index, env_extract, env_len, env_append, env_max, env_min, env_makeMap, env_lookup, env_update])
        obtain ⟨w', hw'⟩ : ∃ w', w' = minusN (wd &&& own) X := ⟨_, rfl⟩
        have hb : ∀ j, w'.testBit j = true ↔ (w.testBit j = true ∨ ∃ k, w.testBit k = true ∧ Adj (masksN R C) k j) ∧ own.testBit j = true ∧ X.testBit j = false := fun j => by
          have hwj : wd.testBit j = true ↔ (w.testBit j = true ∨ ∃ k, w.testBit k = true ∧ Adj (masksN R C) k j) := by
            rw [hwb]
            constructor
            · rintro ⟨k, h1, _, h2⟩
              rcases (nearV_bit hB (hwc k h1)).1 h2 with rfl | h3
              · exact .inl h1
              · exact .inr ⟨k, h1, h3⟩
            · rintro (h1 | ⟨k, h1, h3⟩)
              · exact ⟨j, h1, Nat.zero_testBit _, (nearV_bit hB (hwc j h1)).2 (.inl rfl)⟩
              · exact ⟨k, h1, Nat.zero_testBit _, (nearV_bit hB (hwc k h1)).2 (.inr h3)⟩
          rw [← hwj, hw', minusN_bit, Nat.testBit_and]; cases wd.testBit j <;> cases own.testBit j <;> cases X.testBit j <;> simp
        rw [← hw'] at hml ⊢
        have hor : X ||| w' < 2 ^ 9 := Nat.or_lt_two_pow hX hml
        have hle : X ≤ X ||| w' := Nat.left_le_or
        have hne : w' ≠ 0 → X ≠ X ||| w' := fun hz he => by
          obtain ⟨j, hj⟩ := bit_of_ne hz
          have h1 := ((hb j).1 hj).2.2
          rw [he, Nat.testBit_or, hj, Bool.or_true] at h1; cases h1
        refine next _ _ ?_ ⟨X ||| w', w', rfl, hor, fun j hj => by rw [Nat.testBit_or, hj, Bool.or_true], fun j hj => ?_, fun j hj => by rw [Nat.testBit_or, hSX j hj, Bool.true_or], ?_, ?_, rfl⟩
        · rw [hm, if_neg e]
          by_cases e' : w' = 0
          · rw [if_pos e']; omega
          · rw [if_neg e']; have := hne e'; omega
        · rw [Nat.testBit_or, Bool.or_eq_true] at hj
          rcases hj with hj | hj
          · exact hXo j hj
          · exact ((hb j).1 hj).2.1
        · intro j hj
          rw [Nat.testBit_or, Bool.or_eq_true] at hj
          rcases hj with hj | hj
          · exact hXr j hj
          · obtain ⟨h1 | ⟨k, h1, h2⟩, h3, h4⟩ := (hb j).1 hj
            · rw [hw j h1] at h4; cases h4
            · exact .step (hXr k (hw k h1)) h2 (by rw [Nat.testBit_or, h3, Bool.or_true])
        · intro k j h1 h2 h3 h4
          rw [Nat.testBit_or, h2, Bool.or_false] at h1
          rw [Nat.testBit_or]
          by_cases hk : w.testBit k = true
          · cases hx : X.testBit j with
            | true => rfl
            | false => rw [(hb j).2 ⟨.inr ⟨k, hk, h3⟩, h4, hx⟩]; rfl
          · rw [hc k j h1 (by simpa using hk) h3 h4]; rfl
      · have el := leastIn_W g lf hr e2 hbig ht n (by omega)
        obtain ⟨l1, l2, l3, l4⟩ := low_ok hr e2
        obtain ⟨d1, d2⟩ := f_drop hr e2
        have hlt := without_less hr e2
        have hwl := without_lt9 (k := lowN r) hr
        obtain ⟨k, hk⟩ : ∃ k, k = lowN r := ⟨_, rfl⟩
        rw [← hk] at el l1 l2 d2 hlt hwl
        have hnv := nearV_lt hB l2
        have hwr := hrw k l1
        repeat (first | with_reducible refine wT ?_ | with_reducible refine wptr ?_ | with_reducible refine wbd (by assumption) ?_ | (with_reducible refine wbd (fs0 _) ?_) | (with_reducible refine wia9 l2 ?_) | (with_reducible refine wbd (ld1 (by assumption) (srch_near _ _ _ _ l2)) ?_) | with_reducible refine wor (by omega) (by omega) ?_ | with_reducible refine wneqT (by omega) ?_ | dsimp only)
        refine next2 _ _ (hm2 ▸ hlt) ⟨_, _, rfl, Nat.or_lt_two_pow hwd hnv, hwl, fun j hj => ?_, fun j => ?_, rfl⟩
        · rw [without_bit, Bool.and_eq_true] at hj; exact hrw j hj.1
        · rw [Nat.testBit_or, Bool.or_eq_true, hwb]
          constructor
          · rintro (⟨i, h1, h2, h3⟩ | h1)
            · exact ⟨i, h1, by rw [without_bit, h2]; rfl, h3⟩
            · exact ⟨k, hwr, by rw [without_bit]; simp, h1⟩
          · rintro ⟨i, h1, h2, h3⟩
            by_cases hik : i = k
            · subst hik; exact .inr h3
            · rw [without_bit] at h2
              simp only [ne_eq, hik, not_false_eq_true, decide_true, Bool.and_true] at h2
              exact .inl ⟨i, h1, h2, h3⟩
  obtain ⟨_, _, e, rfl, rfl⟩ := this
  exact e

def whoN (R C a b : Nat) : Nat := if joinsN R C 1 a = true then 1 else if joinsN R C 2 b = true then 2 else 0

theorem joined_W {R C f a b t : Nat} (hB : BoardOf R C) (hp : Pos R C a b) (hbig : Big g) {h : PHeap} {s m : Nat} (hs : At h s (srchC R C m)) (ht : Tab64 g h) (N : Nat) (hN : 5 ≤ N) (hlf : 1000 < lf) :
    ∃ h', CL g lf N fn_impl_search_joined [.ptr s 0, stP f a b t] h = some (.int .i64 (whoN R C a b : Int), h') ∧ Keep h.length h h' := by
  obtain ⟨n, rfl⟩ : ∃ n, N = n + 1 := ⟨N - 1, by omega⟩
  have : W (CL g lf (n + 1) fn_impl_search_joined [.ptr s 0, stP f a b t] h) fun v h' => v = .int .i64 (whoN R C a b : Int) ∧ Keep h.length h h' := by
    rw [impl_search_joined.call_eq]
    unfold impl_search_joined.main
    simp only [env_lf, env_box]
    refine wboxS fun h1 id o1 k1 l1 => ?_
    have hs1 := hs.keep k1
    have e1 := joins_W g lf hB (P := 1) (.inl rfl) hp.1 hbig hs1 (ht.keep k1) n (by omega) hlf
    have e2 := joins_W g lf hB (P := 2) (.inr rfl) hp.2.1 hbig hs1 (ht.keep k1) n (by omega) hlf
    refine loopW (fun m' st => ∃ P : Nat, st = impl_search_joined.st0 (.ptr s 0) (.ptr id 0) (.int .i64 (P : Int)) h1 ∧ P + m' = 3 ∧ 1 ≤ P ∧ (2 ≤ P → joinsN R C 1 a = false) ∧ (3 ≤ P → joinsN R C 2 b = false)) ?_ lf 2 _ (by omega) ⟨1, rfl, rfl, by decide, by omega, by omega⟩
    rintro n1 m1 st ⟨P, rfl, hm, hP1, j1, j2⟩ next
    rw [impl_search_joined.body0_eq]
    unfold impl_search_joined.body0
    simp only [env_C, env_load, env_bin, env_fieldAddr, env_indexAddr]
    have hP : P = 1 ∨ P = 2 ∨ P = 3 := by omega
    rcases hP with rfl | rfl | rfl
    · cases hj : joinsN R C 1 a with
      | true =>
        rw [hj] at e1
        repeat (first | with_reducible refine wT ?_ | with_reducible refine wrI ?_ | with_reducible refine wbd (by assumption) ?_ | (with_reducible refine wbd (fSt0 _) ?_) | (with_reducible refine wia3 (by omega) ?_) | (with_reducible refine wbd (ld1 (by assumption) rfl) ?_) | with_reducible refine wleqT (by omega) ?_ | rw [kLoop_ret] | rw [impl_search_joined.K0_ret] | rw [impl_search_joined.top_sr_4] | dsimp only)
        exact W.ret ⟨by unfold whoN; rw [hj]; rfl, k1⟩
      | false =>
        rw [hj] at e1
        repeat (first | with_reducible refine wT ?_ | with_reducible refine wF ?_ | with_reducible refine wbd (by assumption) ?_ | (with_reducible refine wbd (fSt0 _) ?_) | (with_reducible refine wia3 (by omega) ?_) | (with_reducible refine wbd (ld1 (by assumption) rfl) ?_) | with_reducible refine wadd1 (by omega) ?_ | with_reducible refine wleqT (by omega) ?_ | dsimp only)
        exact next _ _ (show 1 < m1 by omega) ⟨2, rfl, rfl, by decide, fun _ => hj, by omega⟩
    · cases hj : joinsN R C 2 b with
      | true =>
        rw [hj] at e2
        repeat (first | with_reducible refine wT ?_ | with_reducible refine wrI ?_ | with_reducible refine wbd (by assumption) ?_ | (with_reducible refine wbd (fSt0 _) ?_) | (with_reducible refine wia3 (by omega) ?_) | (with_reducible refine wbd (ld1 (by assumption) rfl) ?_) | with_reducible refine wleqT (by omega) ?_ | rw [kLoop_ret] | rw [impl_search_joined.K0_ret] | rw [impl_search_joined.top_sr_4] | dsimp only)
        exact W.ret ⟨by unfold whoN; rw [j1 (by decide), hj]; rfl, k1⟩
      | false =>
        rw [hj] at e2
        repeat (first | with_reducible refine wT ?_ | with_reducible refine wF ?_ | with_reducible refine wbd (by assumption) ?_ | (with_reducible refine wbd (fSt0 _) ?_) | (with_reducible refine wia3 (by omega) ?_) | (with_reducible refine wbd (ld1 (by assumption) rfl) ?_) | with_reducible refine wadd1 (by omega) ?_ | with_reducible refine wleqT (by omega) ?_ | dsimp only)
        exact next _ _ (show 0 < m1 by omega) ⟨3, rfl, rfl, by decide, fun _ => j1 (by decide), fun _ => hj⟩
    · repeat (first | with_reducible refine wF ?_ | with_reducible refine wrI ?_ | with_reducible refine wleqF (by omega) ?_ | rw [kLoop_exit] | rw [impl_search_joined.after0_se0_0_3_5_7])
      exact W.ret ⟨by unfold whoN; rw [j1 (by decide), j2 (by decide)]; rfl, k1⟩
  obtain ⟨_, h', e, rfl, k⟩ := this
  exact ⟨h', e, k⟩

end Go.Proofs.YtfgjbfaapbhppaaDoor

/- The program's search with its map: who wins what stands, and by which moves. -/
namespace Go.Proofs.YtfgjbfaapbhppaaDoor
open Go Go.Ip G

/-- What may stand: free cells, stones of both, who is to move. -/
def Stands (R C f a b t : Nat) : Prop := Pos R C a b ∧ f < 2 ^ 9 ∧ (∀ k, f.testBit k = true ↔ k < R * C ∧ (a ||| b).testBit k = false) ∧ (t = 1 ∨ t = 2)
theorem Stands.put {R C f a b t k : Nat} (h : Stands R C f a b t) (hk : f.testBit k = true) : Stands R C (without f k) (putA t k a) (putB t k b) (3 - t) := by
  obtain ⟨h1, h2, h3, h4⟩ := h
  obtain ⟨k1, k2⟩ := (h3 k).1 hk
  refine ⟨h1.put k1 k2, without_lt9 h2, fun j => ?_, by omega⟩
  rw [without_bit, put_bit, Bool.and_eq_true, h3, Bool.or_eq_false_iff]
  simp only [decide_eq_true_eq, decide_eq_false_iff_not]
  exact ⟨fun ⟨⟨a1, a2⟩, a3⟩ => ⟨a1, a2, a3⟩, fun ⟨a1, a2, a3⟩ => ⟨⟨a1, a2⟩, a3⟩⟩

/-- Every entry of the map tells who wins. -/
def Memo (R C : Nat) (es : List (PV × PV)) : Prop := ∀ p ∈ es, ∃ f a b t, Stands R C f a b t ∧ p = (stP f a b t, .int .i64 (winN R C a b t : Int))

theorem eqK_st {f a b t f' a' b' t' : Nat} (h : eqK (stP f a b t) (stP f' a' b' t') = true) : f = f' ∧ a = a' ∧ b = b' ∧ t = t' := by
  simp only [eqK, stP, stC, eqL, eq1, Bool.and_eq_true, decide_eq_true_eq] at h
  omega
theorem memo_find {R C f a b t : Nat} : ∀ {es : List (PV × PV)} {v : PV}, Memo R C es → findM es (stP f a b t) = some v → v = .int .i64 (winN R C a b t : Int)
  | [], v, _, h => by cases h
  | p :: es, v, hm, h => by
    obtain ⟨f', a', b', t', _, rfl⟩ := hm p (by simp)
    unfold findM at h
    cases e : eqK (stP f' a' b' t') (stP f a b t) with
    | true =>
      rw [e] at h
      obtain ⟨_, rfl, rfl, rfl⟩ := eqK_st e
      cases h; rfl
    | false =>
      rw [e] at h
      exact memo_find (fun q hq => hm q (by simp [hq])) h
theorem memo_put {R C f a b t : Nat} (hs : Stands R C f a b t) : ∀ {es : List (PV × PV)}, Memo R C es → Memo R C (putM es (stP f a b t) (.int .i64 (winN R C a b t : Int)))
  | [], _ => fun p hp => by
    simp only [putM, List.mem_singleton] at hp
    exact ⟨f, a, b, t, hs, hp⟩
  | p :: es, hm => by
    obtain ⟨f', a', b', t', hs', rfl⟩ := hm p (by simp)
    have hr : Memo R C es := fun q hq => hm q (by simp [hq])
    unfold putM
    cases e : eqK (stP f' a' b' t') (stP f a b t) with
    | true =>
      obtain ⟨rfl, rfl, rfl, rfl⟩ := eqK_st e
      intro q hq
      rcases List.mem_cons.1 hq with rfl | hq
      · exact ⟨f', a', b', t', hs, rfl⟩
      · exact hr q hq
    | false =>
      intro q hq
      rcases List.mem_cons.1 hq with rfl | hq
      · exact ⟨f', a', b', t', hs', rfl⟩
      · exact memo_put hs hr q hq

/-! ### the keys -/
theorem keyedSt : keyedB Tryd.prog 59 = true := by kernel_rfl
theorem zeroInt : zero1 Tryd.prog 3 = some (.int .i64 0) := by kernel_rfl
theorem stU : Tryd.prog.underlying 59 = some (.struct (Tryd.prog.fieldsOf 59)) := by kernel_rfl
theorem stF : (Tryd.prog.fieldsOf 59).toList.map (fun f => (f.type, f.offset)) = [(57, 0), (3, 3)] := by kernel_rfl
theorem stN : (Tryd.prog.fieldsOf 59).all (·.name != "_") = true := by kernel_rfl
theorem stK : Tryd.prog.keyType 59 = true := by kernel_rfl
theorem tyIntU : Tryd.prog.underlying 3 = some (.int .i64) := by kernel_rfl
theorem ce1 : Tryd.prog.cellsOf 3 = 1 := by kernel_rfl
theorem ce3 : Tryd.prog.cellsOf 57 = 3 := by kernel_rfl
theorem ce4 : Tryd.prog.cellsOf 59 = 4 := by kernel_rfl
theorem tySz : Nat.ble 2 Tryd.prog.types.size = true := by kernel_rfl
theorem wf_small {x : Nat} (hx : x < 2 ^ 9) : (Lit.int .i64 (x : Int)).wf = true := by
  have h1 : IntKind.i64.min = -9223372036854775808 := by decide
  have h2 : IntKind.i64.max = 9223372036854775807 := by decide
  simp only [Lit.wf, h1, h2, Bool.and_eq_true, decide_eq_true_eq]
  omega
theorem lits_int {D x : Nat} (hx : x < 2 ^ 9) : Tryd.prog.keyLits (D + 1) 3 [.int .i64 (x : Int)] = some [.int .i64 (x : Int)] := by
  simp [Program.keyLits, tyIntU, wf_small hx]
theorem lits_arr {D x y z : Nat} (hx : x < 2 ^ 9) (hy : y < 2 ^ 9) (hz : z < 2 ^ 9) : Tryd.prog.keyLits (D + 2) 57 [.int .i64 (x : Int), .int .i64 (y : Int), .int .i64 (z : Int)] = some [.int .i64 (x : Int), .int .i64 (y : Int), .int .i64 (z : Int)] := by
  unfold Program.keyLits
  rw [tyA3]
  simp only [ce1, ce3, List.length_cons, List.length_nil, if_true]
  rw [show List.range 3 = [0, 1, 2] from rfl]
  simp [lits_int hx, lits_int hy, lits_int hz]
theorem lits_st {D f a b t : Nat} (hf : f < 2 ^ 9) (ha : a < 2 ^ 9) (hb : b < 2 ^ 9) (ht : t < 2 ^ 9) : ∃ L, Tryd.prog.keyLits (D + 3) 59 [.int .i64 (f : Int), .int .i64 (a : Int), .int .i64 (b : Int), .int .i64 (t : Int)] = some L := by
  unfold Program.keyLits
  rw [stU]
  simp only [ce4, List.length_cons, List.length_nil, stN, and_self, if_true]
  have hF := stF
  generalize Tryd.prog.fieldsOf 59 = fs at hF ⊢
  obtain ⟨L⟩ := fs
  match L, hF with
  | [f0, f1], hF =>
    simp only [List.map_cons, List.map_nil, List.cons.injEq, Prod.mk.injEq, and_true] at hF
    obtain ⟨⟨t0, o0⟩, t1, o1⟩ := hF
    refine ⟨[.int .i64 (f : Int), .int .i64 (a : Int), .int .i64 (b : Int), .int .i64 (t : Int)], ?_⟩
    simp [t0, o0, t1, o1, ce1, ce3, lits_arr hf ha hb, lits_int ht]
  | [], hF => simp at hF
  | [_], hF => simp at hF
  | _ :: _ :: _ :: _, hF => simp at hF
theorem isKey_st {R C f a b t : Nat} (hB : BoardOf R C) (hs : Stands R C f a b t) : isKeyP Tryd.prog 59 (stP f a b t) = true := by
  obtain ⟨hp, hf, _, ht⟩ := hs
  have l9 := hp.lt9 hB
  obtain ⟨D, hD⟩ : ∃ D, Tryd.prog.types.size + 1 = D + 3 := ⟨Tryd.prog.types.size - 2, by have := Nat.le_of_ble_eq_true tySz; omega⟩
  obtain ⟨L, hL⟩ := lits_st (D := D) hf l9.1 l9.2 (show t < 2 ^ 9 by omega)
  have hk : keyV (stP f a b t) = some (.agg #[.int .i64 (f : Int), .int .i64 (a : Int), .int .i64 (b : Int), .int .i64 (t : Int)]) := rfl
  have hfo : (Value.agg #[.int .i64 (f : Int), .int .i64 (a : Int), .int .i64 (b : Int), .int .i64 (t : Int)]).formed Tryd.prog 59 = true := by
    simp [Value.formed, stU, ce4]
  unfold isKeyP
  rw [hk]
  simp only [keyOf, stU, stK, hfo, Bool.and_self, if_true, hD, Value.cells, hL, Option.map_some, Option.isSome_some]
theorem keys_memo {R C : Nat} {es : List (PV × PV)} (hB : BoardOf R C) (hm : Memo R C es) {f a b t : Nat} (hs : Stands R C f a b t) : keysB Tryd.prog 59 es (stP f a b t) = true := by
  unfold keysB
  rw [keyedSt, isKey_st hB hs, Bool.and_self, Bool.true_and, List.all_eq_true]
  intro p hp
  obtain ⟨f', a', b', t', hs', rfl⟩ := hm p hp
  exact isKey_st hB hs'

theorem look_st {R C m : Nat} {es : List (PV × PV)} {h : PHeap} (hB : BoardOf R C) (hM : MapAt h m es) (hm : Memo R C es) {f a b t : Nat} (hs : Stands R C f a b t) :
    lookupP Tryd.prog 66 (.mapv m) (stP f a b t) true h = some (foundP true (.int .i64 0) (findM es (stP f a b t))) := by
  have hk := keys_memo hB hm hs
  have hma : mapAt h m = some es := by unfold mapAt; rw [show h[m]? = some (.mp es) from hM]
  simp only [lookupP, tyMp, hma, zeroInt, hk, cond_true]
theorem upd_st {R C m : Nat} {es : List (PV × PV)} {h : PHeap} (hB : BoardOf R C) (hM : MapAt h m es) (hm : Memo R C es) {f a b t : Nat} (hs : Stands R C f a b t) (x : Int) :
    updateP Tryd.prog 66 (.mapv m) (stP f a b t) (.int .i64 x) h = some (h.set m (.mp (putM es (stP f a b t) (.int .i64 x)))) := by
  have hk := keys_memo hB hm hs
  have hma : mapAt h m = some es := by unfold mapAt; rw [show h[m]? = some (.mp es) from hM]
  simp only [updateP, tyMp, hma, hk, PV.oneCell, Bool.and_self, cond_true]

/-- The search of a board: its tables, and its map, right in every entry. -/
def Sch (R C : Nat) (h : PHeap) (s m : Nat) : Prop := At h s (srchC R C m) ∧ ∃ es, MapAt h m es ∧ Memo R C es
theorem Sch.keep {R C s m : Nat} {h h' : PHeap} (hs : Sch R C h s m) (k : Keep h.length h h') : Sch R C h' s m := by
  obtain ⟨a, es, b, c⟩ := hs; exact ⟨a.keep k, es, b.keep k, c⟩
theorem Sch.ne {R C s m id : Nat} {h : PHeap} {l : List PV} (hs : Sch R C h s m) (a : At h id l) : id ≠ m := by
  obtain ⟨_, es, b, _⟩ := hs; exact a.ne b
theorem Sch.lt {R C s m : Nat} {h : PHeap} (hs : Sch R C h s m) : m < h.length := by
  obtain ⟨_, es, b, _⟩ := hs; exact b.lt
theorem Tab64.kb {g : Nat → PV} {R C s m : Nat} {h h' : PHeap} (t : Tab64 g h) (hs : Sch R C h s m) (k : KB m h h') : Tab64 g h' := fun id e => by
  have ho := t id e
  obtain ⟨_, es, b, _⟩ := hs
  rw [k.2 id (List.getElem?_eq_some_iff.1 ho).1 (fun e => by subst e; unfold MapAt at b; rw [ho] at b; cases b)]; exact ho
theorem Tab.kb {g : Nat → PV} {R C s m : Nat} {h h' : PHeap} (t : Tab g h) (hs : Sch R C h s m) (k : KB m h h') : Tab g h' := by
  obtain ⟨id, e, ho⟩ := t
  obtain ⟨_, es, b, _⟩ := hs
  exact ⟨id, e, by rw [k.2 id (List.getElem?_eq_some_iff.1 ho).1 (fun e => by subst e; unfold MapAt at b; rw [ho] at b; cases b)]; exact ho⟩

theorem who_win {R C a b t : Nat} (hB : BoardOf R C) (hp : Pos R C a b) : (whoN R C a b ≠ 0 → winN R C a b t = whoN R C a b) ∧ (whoN R C a b = 0 → joinsN R C 1 a = false ∧ joinsN R C 2 b = false) ∧ whoN R C a b ≤ 2 := by
  unfold whoN
  cases h1 : joinsN R C 1 a with
  | true => exact ⟨fun _ => win_first h1, fun h => by simp at h, by simp⟩
  | false =>
    cases h2 : joinsN R C 2 b with
    | true => exact ⟨fun _ => by rw [win_second hB hp h2]; rfl, fun h => by simp at h, by simp⟩
    | false => exact ⟨fun h => by simp at h, fun _ => ⟨rfl, rfl⟩, by simp⟩

theorem fr_put' {R C f a b t k : Nat} (hs : Stands R C f a b t) (hk : f.testBit k = true) : frN (R * C) (putA t k a) (putB t k b) + 1 ≤ frN (R * C) a b := by
  obtain ⟨k1, k2⟩ := (hs.2.2.1 k).1 hk; exact fr_put k1 k2

variable (g : Nat → PV) (lf n : Nat)

def WinOk (R C s m : Nat) (b : Nat) : Prop := ∀ (f a b' t N : Nat) (h : PHeap), frN (R * C) a b' ≤ b → Stands R C f a b' t → 2 * b + 8 ≤ N → Sch R C h s m → Tab64 g h →
  W (CL g lf N fn_impl_search_winner [.ptr s 0, stP f a b' t] h) fun v h' => v = .int .i64 (winN R C a b' t : Int) ∧ Sch R C h' s m ∧ KB m h h'

theorem solved_W {R C s m B : Nat} (hB : BoardOf R C) (hbig : Big g) (hlf : 1000 < lf) (ih : ∀ b, b < B → WinOk g lf R C s m b) {f a b t : Nat} (hfr : frN (R * C) a b ≤ B) (hst : Stands R C f a b t) (N : Nat) (hN : 2 * B + 7 ≤ N) {h : PHeap} (hs : Sch R C h s m) (ht : Tab64 g h) :
    W (CL g lf N fn_impl_search_solved [.ptr s 0, stP f a b t] h) fun v h' => v = .int .i64 (winN R C a b t : Int) ∧ Sch R C h' s m ∧ KB m h h' := by
  obtain ⟨n, rfl⟩ : ∃ n, N = n + 1 := ⟨N - 1, by omega⟩
  obtain ⟨hp, hf9, hfree, hT⟩ := id hst
  have h9 := hB.2.2.2.2
  have l9 := hp.lt9 hB
  obtain ⟨w1, w2, w3⟩ := who_win (t := t) hB hp
  rw [impl_search_solved.call_eq]
  unfold impl_search_solved.main
  simp only [env_C, env_lf, env_box, env_load, env_bin, env_fieldAddr, env_indexAddr]
  refine wboxS fun h1 id o1 k1 l1 => ?_
  have hs1 := hs.keep k1
  have ht1 := ht.keep k1
  obtain ⟨h2, e1, k2⟩ := joined_W g lf (f := f) (t := t) hB hp hbig hs1.1 ht1 n (by omega) hlf
  have hs2 := hs1.keep k2
  have ht2 := ht1.keep k2
  have o2 := o1.keep k2
  repeat (first | with_reducible refine wbd (by assumption) ?_ | (with_reducible refine wbd (ldS (by assumption)) ?_) | dsimp only)
  refine wneq (fun e => ?_) (fun e => ?_)
  · repeat (first | with_reducible refine wT ?_ | with_reducible refine wrI ?_)
    exact W.ret ⟨by rw [w1 (by omega)], hs2, k1.kb.trans k2.kb⟩
  · obtain ⟨j1, j2⟩ := w2 (by omega)
    have hwo := win_open (t := t) j1 j2
    have e3 : ∀ h, CL g lf n fn_impl_exchanged [.int .i64 (t : Int)] h = some (.int .i64 ((3 - t : Nat) : Int), h) := fun h => exchanged_W g lf n (by omega) h hT
    repeat (first | with_reducible refine wF ?_ | (with_reducible refine wbd (fSt0 _) ?_) | (with_reducible refine wia30 ?_) | (with_reducible refine wbd (ld1 (by assumption) rfl) ?_))
    refine loopW (fun m' st => ∃ (r : Nat) (h3 : PHeap), st = impl_search_solved.st0 (.ptr s 0) (.ptr id 0) (.int .i64 (r : Int)) h3 ∧ r < 2 ^ 9 ∧ (∀ k, r.testBit k = true → f.testBit k = true) ∧ (∀ k, f.testBit k = true → r.testBit k = false → winN R C (putA t k a) (putB t k b) (3 - t) ≠ t) ∧
      At h3 id (stC f a b t) ∧ Sch R C h3 s m ∧ Tab64 g h3 ∧ KB m h2 h3 ∧ m' = r) ?_ lf f _ (by omega) ⟨f, h2, rfl, hf9, fun _ h => h, fun k h1 h2 => (by rw [h1] at h2; cases h2), o2, hs2, ht2, KB.refl _ _, rfl⟩
    rintro n1 m1 st ⟨r, h3, rfl, hr, hrf, hno, o3, hs3, ht3, k3, hm⟩ next
    rw [impl_search_solved.body0_eq]
    unfold impl_search_solved.body0
    simp only [env_C, env_load, env_bin, env_fieldAddr]
    by_cases e4 : r = 0
    · subst e4
      have e3' := e3 h3
      repeat (first | with_reducible refine wF ?_ | with_reducible refine wrI ?_ | with_reducible refine wbd (by assumption) ?_ | (with_reducible refine wbd (fSt1 _) ?_) | (with_reducible refine wbd (ld1 (by assumption) rfl) ?_) | with_reducible refine wneqF (by omega) ?_ | rw [kLoop_exit] | rw [impl_search_solved.after0_se0_0_3_6_17] | dsimp only | simp only [env_C, env_g, env_lf, env_pick, env_alloc, env_box, env_build, env_buildSlice, env_load, env_store, env_ptr, env_bin, env_un, env_conv, env_make, env_slice, env_fieldAddr, env_field, env_indexAddr, env_index, env_extract, env_len, env_append, env_max, env_min, env_makeMap, env_lookup, env_update])
      refine W.ret ⟨?_, hs3, (k1.kb.trans k2.kb).trans k3⟩
      have hmv : moveB R C a b t = false := by
        cases hh : moveB R C a b t with
        | false => rfl
        | true =>
          obtain ⟨k, c1, c2, c3⟩ := moveB_iff.1 hh
          exact absurd c3 (hno k ((hfree k).2 ⟨c1, c2⟩) (Nat.zero_testBit _))
      rw [hwo, hmv]; rfl
    · have el := leastIn_W g lf hr e4 hbig ht3 n (by omega)
      obtain ⟨c1, c2, c3, c4⟩ := low_ok hr e4
      obtain ⟨d1, d2⟩ := f_drop hr e4
      have hlt := without_less hr e4
      have hwl := without_lt9 (k := lowN r) hr
      obtain ⟨k, hk⟩ : ∃ k, k = lowN r := ⟨_, rfl⟩
      rw [← hk] at el c1 c2 d2 hlt hwl
      have hkf := hrf k c1
      have hfr' := fr_put' hst hkf
      have hst' := hst.put hkf
      repeat (first | with_reducible refine wT ?_ | with_reducible refine wck plain_int ?_ | with_reducible refine wbd (by assumption) ?_ | (with_reducible refine wbd (fSt1 _) ?_) | (with_reducible refine wbd (ld1 (by assumption) rfl) ?_) | (with_reducible refine wbd (ldS (by assumption)) ?_) | (with_reducible refine wck plainS ?_) | with_reducible refine wneqT (by omega) ?_ | dsimp only)
      refine wcall (after_W g lf hf9 l9.1 l9.2 c2 hT n (by omega) h3) fun v h4 ⟨hv, k4⟩ => ?_
      subst hv
      have o4 := o3.keep k4
      have hs4 := hs3.keep k4
      have ht4 := ht3.keep k4
      repeat (first | with_reducible refine wck plain_int ?_ | (with_reducible refine wbd (ld1 (by assumption) rfl) ?_) | (with_reducible refine wbd (ldS (by assumption)) ?_) | (with_reducible refine wck plainS ?_) | dsimp only)
      refine wcall (ih (B - 1) (by omega) _ _ _ _ n h4 (by omega) hst' (by omega) hs4 ht4) fun v h5 ⟨hv, hs5, k5⟩ => ?_
      subst hv
      have o5 := o4.kb k5 (hs4.ne o4)
      have ht5 := ht4.kb hs4 k5
      repeat (first | with_reducible refine wck plain_int ?_ | (with_reducible refine wbd (ld1 (by assumption) rfl) ?_) | (with_reducible refine wbd (ldS (by assumption)) ?_) | (with_reducible refine wck plainS ?_) | dsimp only)
      refine weql (fun e5 => ?_) (fun e5 => ?_)
      · repeat (first | with_reducible refine wT ?_ | with_reducible refine wrI ?_ | (with_reducible refine wbd (fSt1 _) ?_) | (with_reducible refine wbd (ld1 (by assumption) rfl) ?_) | rw [kLoop_ret] | rw [impl_search_solved.K0_ret] | rw [impl_search_solved.top_sr_4])
        refine W.ret ⟨?_, hs5, ((k1.kb.trans k2.kb).trans k3).trans (k4.kb.trans k5)⟩
        obtain ⟨q1, q2⟩ := (hfree k).1 hkf
        have hmv : moveB R C a b t = true := moveB_iff.2 ⟨k, q1, q2, by omega⟩
        rw [hwo, hmv]; rfl
      · repeat (first | with_reducible refine wF ?_ | with_reducible refine wbd (by assumption) ?_)
        refine next _ _ (hm ▸ hlt) ⟨_, h5, rfl, hwl, fun j hj => ?_, fun j hj1 hj2 => ?_, o5, hs5, ht5, k3.trans (k4.kb.trans k5), rfl⟩
        · rw [without_bit, Bool.and_eq_true] at hj; exact hrf j hj.1
        · by_cases hjk : j = k
          · subst hjk; omega
          · rw [without_bit] at hj2
            simp only [ne_eq, hjk, not_false_eq_true, decide_true, Bool.and_true] at hj2
            exact hno j hj1 hj2

theorem sWinner_W {R C s m : Nat} (hB : BoardOf R C) (hbig : Big g) (hlf : 1000 < lf) (B : Nat) : WinOk g lf R C s m B := by
  induction B using Nat.strongRecOn with
  | _ B ih =>
  intro f a b t N h hfr hst hN hs ht
  obtain ⟨n, rfl⟩ : ∃ n, N = n + 1 := ⟨N - 1, by omega⟩
  rw [impl_search_winner.call_eq]
  unfold impl_search_winner.main
  simp only [env_C, env_box, env_load, env_ptr, env_un, env_fieldAddr, env_extract, env_lookup, env_update]
  refine wboxS fun h1 id o1 k1 l1 => ?_
  have hs1 := hs.keep k1
  have ht1 := ht.keep k1
  obtain ⟨sa, es, ma, mm⟩ := _root_.id hs1
  have hlook := look_st hB ma mm hst
  repeat (first | with_reducible refine wptr ?_ | with_reducible refine wbd (by assumption) ?_ | (with_reducible refine wbd (fs3 _) ?_) | (with_reducible refine wbd (ldS (by assumption)) ?_) | (with_reducible refine wbd (ldM (by assumption) (srch_map _ _ _)) ?_) | dsimp only)
  cases hfd : findM es (stP f a b t) with
  | some v =>
    have hv := memo_find mm hfd
    subst hv
    refine wx0 ?_
    refine wx1 ?_
    repeat (first | with_reducible refine wF ?_ | with_reducible refine wnT ?_ | with_reducible refine wrI ?_)
    exact W.ret ⟨rfl, hs1, k1.kb⟩
  | none =>
    refine wx0 ?_
    refine wx1 ?_
    repeat (first | with_reducible refine wT ?_ | with_reducible refine wnF ?_ | (with_reducible refine wbd (ldS (by assumption)) ?_))
    refine wcall (solved_W g lf hB hbig hlf ih hfr hst n (by omega) hs1 ht1) fun v h2 ⟨hv, hs2, k2⟩ => ?_
    subst hv
    have o2 := o1.kb k2 (hs1.ne o1)
    obtain ⟨sa2, es2, ma2, mm2⟩ := _root_.id hs2
    repeat (first | with_reducible refine wptr ?_ | (with_reducible refine wbd (fs3 _) ?_) | (with_reducible refine wbd (ldS (by assumption)) ?_) | (with_reducible refine wbd (ldM (by assumption) (srch_map _ _ _)) ?_) | dsimp only)
    refine wbd (upd_st hB ma2 mm2 hst _) ?_
    have ma3 : MapAt (h2.set m (.mp (putM es2 (stP f a b t) (.int .i64 (winN R C a b t : Int))))) m (putM es2 (stP f a b t) (.int .i64 (winN R C a b t : Int))) := by
      unfold MapAt; rw [List.getElem?_set_self ma2.lt]
    have k3 : KB m h2 (h2.set m (.mp (putM es2 (stP f a b t) (.int .i64 (winN R C a b t : Int))))) := ⟨by simp, fun i _ hn => List.getElem?_set_ne (by omega)⟩
    generalize h2.set m (.mp (putM es2 (stP f a b t) (.int .i64 (winN R C a b t : Int)))) = h3 at ma3 k3 ⊢
    have sa3 := sa2.kb k3 (sa2.ne ma2)
    repeat (first | with_reducible refine wrI ?_ | with_reducible refine wck plain_map ?_ | (with_reducible refine wbd (ldM (by assumption) (srch_map _ _ _)) ?_))
    exact W.ret ⟨rfl, ⟨sa3, _, ma3, memo_put hst mm2⟩, (k1.kb.trans k2).trans k3⟩

end Go.Proofs.YtfgjbfaapbhppaaDoor

/- The program's search: made for a board, begun at a position; the moves by which one wins. -/
namespace Go.Proofs.YtfgjbfaapbhppaaDoor
open Go Go.Ip G

variable (g : Nat → PV) (lf n : Nat)

/-! ### a search is made -/
def slotV (R C i p j : Nat) : Nat :=
  if j < 9 then (if j < i then nearV R C j else 0) else if j = 10 ∧ 2 ≤ p then sideN R C 1 false else if j = 11 ∧ 3 ≤ p then sideN R C 2 false else if j = 13 ∧ 2 ≤ p then sideN R C 1 true else if j = 14 ∧ 3 ≤ p then sideN R C 2 true else 0
def fillC (R C m i p : Nat) : List PV := ((List.range 15).map (slotV R C i p)).map (fun x : Nat => .int .i64 (x : Int)) ++ [.mapv m]
theorem fillC_length (R C m i p : Nat) : (fillC R C m i p).length = 16 := by simp [fillC]
theorem fill_done (R C m : Nat) : fillC R C m (R * C) 3 = srchC R C m := by
  have hn : ∀ j ∈ List.range 9, slotV R C (R * C) 3 j = nearV R C j := fun j hj => by
    have hj := List.mem_range.1 hj
    unfold slotV nearV
    rw [if_pos hj]
    by_cases h : j < R * C <;> simp [h]
  unfold fillC srchC srchV
  rw [show List.range 15 = List.range 9 ++ [9, 10, 11, 12, 13, 14] from rfl, List.map_append, List.map_congr_left hn]
  rfl
theorem fill_near {R C m i p : Nat} (hi : i < 9) : (fillC R C m i p).set (0 + i) (.int .i64 (nearV R C i : Int)) = fillC R C m (i + 1) p := by
  unfold fillC
  rw [Nat.zero_add, List.set_append_left _ _ (by simp; omega), ← List.map_set]
  congr 2
  apply List.ext_getElem (by simp)
  intro j h1 h2
  simp only [List.getElem_set, List.getElem_map, List.getElem_range]
  unfold slotV
  by_cases e : i = j
  · subst e; rw [if_pos rfl, if_pos hi, if_pos (by omega)]
  · rw [if_neg e]
    by_cases h9 : j < 9
    · rw [if_pos h9, if_pos h9]
      by_cases h : j < i
      · rw [if_pos h, if_pos (by omega)]
      · rw [if_neg h, if_neg (by omega)]
    · rw [if_neg h9, if_neg h9]
theorem fill_one (R C m i : Nat) : ((fillC R C m i 1).set (9 + 1) (.int .i64 (sideN R C 1 false : Int))).set (12 + 1) (.int .i64 (sideN R C 1 true : Int)) = fillC R C m i 2 := by rfl
theorem fill_two (R C m i : Nat) : ((fillC R C m i 2).set (9 + 2) (.int .i64 (sideN R C 2 false : Int))).set (12 + 2) (.int .i64 (sideN R C 2 true : Int)) = fillC R C m i 3 := by rfl
theorem bldS (m : Nat) : buildP Tryd.prog 69 [(3, .mapv m)] = some (.agg (fillC 1 1 m 0 1)) := by kernel_rfl
theorem fill_zero (R C m : Nat) : fillC 1 1 m 0 1 = fillC R C m 0 1 := by
  unfold fillC
  congr 2

theorem wmkM {Q : PV → PHeap → Prop} {h : PHeap} {F : PV × PHeap → Res} (hf : ∀ h' m, MapAt h' m [] → Keep h.length h h' → h.length ≤ m → W (F (.mapv m, h')) Q) : W ((makeMapP none h).bind F) Q :=
  hf _ _ (by unfold MapAt; simp) (Keep.append _ _ _ (Nat.le_refl _)) (Nat.le_refl _)

theorem newSearch_W {R C : Nat} (hB : BoardOf R C) (N : Nat) (hN : 7 ≤ N) (hlf : 1000 < lf) {h : PHeap} (ht : Tab g h) :
    W (CL g lf N fn_impl_newSearch [.int .i64 (R : Int), .int .i64 (C : Int)] h) fun v h' => ∃ s m, v = .ptr s 0 ∧ Sch R C h' s m ∧ Keep h.length h h' ∧ h.length ≤ s ∧ h.length ≤ m := by
  obtain ⟨n, rfl⟩ : ∃ n, N = n + 1 := ⟨N - 1, by omega⟩
  obtain ⟨b1, b2, b3, b4, h9⟩ := id hB
  rw [impl_newSearch.call_eq]
  unfold impl_newSearch.main
  simp only [env_lf, env_box, env_build, env_bin, env_makeMap]
  refine wmkM fun h1 m ma k1 lm => ?_
  refine wbd (bldS m) ?_
  refine wnew (l := fillC 1 1 m 0 1) (by rfl) fun h2 s o2 k2 ls => ?_
  dsimp only at k2 ls ⊢
  rw [fill_zero R C] at o2
  have ma2 := ma.keep k2
  have kk := k1.trans (k2.mono k1.1)
  have lss : h.length ≤ s := Nat.le_trans k1.1 ls
  have hRC : R * C < 4611686018427387904 := by omega
  repeat (first | with_reducible refine wmulN (by omega) ?_)
  refine loopW (fun m' st => ∃ (i : Nat) (h3 : PHeap), st = impl_newSearch.st0 (.int .i64 (R : Int)) (.int .i64 (C : Int)) (.ptr s 0) (.int .i64 ((R * C : Nat) : Int)) (.int .i64 (i : Int)) h3 ∧ i + m' = R * C ∧ At h3 s (fillC R C m i 1) ∧ MapAt h3 m [] ∧ Keep h.length h h3) ?_ lf (R * C) _ (by omega) ⟨0, h2, rfl, by omega, o2, ma2, kk⟩
  rintro n1 m1 st ⟨i, h3, rfl, him, o3, ma3, k3⟩ next
  rw [impl_newSearch.body0_eq]
  unfold impl_newSearch.body0
  simp only [env_C, env_store, env_ptr, env_bin, env_fieldAddr, env_indexAddr]
  cases m1 with
  | succ m1 =>
    have hi : i < 9 := by omega
    have hsl := shl_lt hi
    have hnv : wideN R C (1 <<< i) = nearV R C i := by unfold nearV; rw [if_pos (by omega)]
    obtain ⟨h4, e4, k4⟩ := withNear_calls g lf b1 b2 b3 b4 h9 hsl n (by omega) (by omega) (ht.keep k3)
    have o4 := o3.keep k4
    rw [hnv] at e4
    repeat (first | with_reducible refine wT ?_ | with_reducible refine wptr ?_ | with_reducible refine wbd (by assumption) ?_ | (with_reducible refine wbd (fs0 _) ?_) | (with_reducible refine wia9 hi ?_) | with_reducible refine wshl (by omega) ?_ | with_reducible refine wlssT (by omega) ?_ | dsimp only)
    refine wst1 o4 (by rw [fillC_length]; omega) fun h5 o5 k5 => ?_
    rw [fill_near hi] at o5
    have ma5 := (ma3.keep k4).kb k5 (o4.ne (ma3.keep k4)).symm
    repeat (first | with_reducible refine wadd1 (by omega) ?_)
    exact next _ _ (Nat.lt_succ_self m1) ⟨i + 1, h5, rfl, by omega, o5, ma5, (k3.trans (k4.mono k3.1)).kbs (Nat.le_refl _) k5 lss⟩
  | zero =>
    have hiR : i = R * C := by omega
    subst hiR
    repeat (first | with_reducible refine wF ?_ | with_reducible refine wlssF (by omega) ?_ | rw [kLoop_exit] | rw [impl_newSearch.after0_se0_0_1_5_13_14_15] | simp only [env_C, env_g, env_lf, env_pick, env_alloc, env_box, env_build, env_buildSlice, env_load, env_store, env_ptr, env_bin, env_un, env_conv, env_make, env_slice, env_fieldAddr, env_field, env_indexAddr, env_index, env_extract, env_len, env_append, env_max, env_min, env_makeMap, env_lookup, env_update])
    refine loopW (fun m' st => ∃ (P : Nat) (h4 : PHeap), st = impl_newSearch.st1 (.int .i64 (R : Int)) (.int .i64 (C : Int)) (.ptr s 0) (.int .i64 (P : Int)) h4 ∧ P + m' = 3 ∧ 1 ≤ P ∧ At h4 s (fillC R C m (R * C) P) ∧ MapAt h4 m [] ∧ Keep h.length h h4) ?_ lf 2 _ (by omega) ⟨1, h3, rfl, rfl, by decide, o3, ma3, k3⟩
    rintro n2 m2 st ⟨P, h4, rfl, hPm, hP1, o4, ma4, k4⟩ next2
    have hP : P = 1 ∨ P = 2 ∨ P = 3 := by omega
    have e1 := fun h => sidesOf_W g lf hB (P := 1) (.inl rfl) n (by omega) hlf h
    have e2 := fun h => sidesOf_W g lf hB (P := 2) (.inr rfl) n (by omega) hlf h
    rw [impl_newSearch.body1_eq]
    unfold impl_newSearch.body1
    simp only [env_C, env_store, env_ptr, env_bin, env_fieldAddr, env_indexAddr, env_extract]
    rcases hP with rfl | rfl | rfl
    · have e1' := e1 h4
      repeat (first | with_reducible refine wT ?_ | with_reducible refine wx0 ?_ | with_reducible refine wx1 ?_ | with_reducible refine wptr ?_ | with_reducible refine wbd (by assumption) ?_ | (with_reducible refine wbd (fs1 _) ?_) | (with_reducible refine wbd (fs2 _) ?_) | (with_reducible refine wia3 (by omega) ?_) | with_reducible refine wleqT (by omega) ?_ | dsimp only)
      refine wst1 o4 (by rw [fillC_length]; decide) fun h5 o5 k5 => ?_
      repeat (first | (with_reducible refine wia3 (by omega) ?_))
      refine wst1 o5 (by rw [List.length_set, fillC_length]; decide) fun h6 o6 k6 => ?_
      rw [fill_one] at o6
      repeat (first | with_reducible refine wadd1 (by omega) ?_)
      exact next2 _ _ (show 1 < m2 by omega) ⟨2, h6, rfl, rfl, by decide, o6, (ma4.kb k5 (o4.ne ma4).symm).kb k6 (o4.ne ma4).symm, (k4.kbs (Nat.le_refl _) k5 lss).kbs (Nat.le_refl _) k6 lss⟩
    · have e2' := e2 h4
      repeat (first | with_reducible refine wT ?_ | with_reducible refine wx0 ?_ | with_reducible refine wx1 ?_ | with_reducible refine wptr ?_ | with_reducible refine wbd (by assumption) ?_ | (with_reducible refine wbd (fs1 _) ?_) | (with_reducible refine wbd (fs2 _) ?_) | (with_reducible refine wia3 (by omega) ?_) | with_reducible refine wleqT (by omega) ?_ | dsimp only)
      refine wst1 o4 (by rw [fillC_length]; decide) fun h5 o5 k5 => ?_
      repeat (first | (with_reducible refine wia3 (by omega) ?_))
      refine wst1 o5 (by rw [List.length_set, fillC_length]; decide) fun h6 o6 k6 => ?_
      rw [fill_two] at o6
      repeat (first | with_reducible refine wadd1 (by omega) ?_)
      exact next2 _ _ (show 0 < m2 by omega) ⟨3, h6, rfl, rfl, by decide, o6, (ma4.kb k5 (o4.ne ma4).symm).kb k6 (o4.ne ma4).symm, (k4.kbs (Nat.le_refl _) k5 lss).kbs (Nat.le_refl _) k6 lss⟩
    · repeat (first | with_reducible refine wF ?_ | with_reducible refine wrP ?_ | with_reducible refine wleqF (by omega) ?_ | rw [kLoop_exit] | rw [impl_newSearch.after1_se2_0_1_5_7_29])
      rw [fill_done] at o4
      exact W.ret ⟨s, m, rfl, ⟨o4, [], ma4, fun p hp => by cases hp⟩, k4, lss, Nat.le_trans (Nat.le_refl _) lm⟩

/-! ### where it begins -/
theorem bldSt (t : Nat) : buildP Tryd.prog 59 [(1, .int .i64 (t : Int))] = some (stP 0 0 0 t) := by kernel_rfl
theorem standingOf_W {xs : List Int} {p : PV} {h : PHeap} (hp : IntSl .i64 h p xs) (hl : xs.length ≤ 20) (t : Nat) (N : Nat) (hN : 2 ≤ N) (hlf : 1000 < lf) :
    W (CL g lf N fn_impl_standingOf [p, .int .i64 (t : Int)] h) fun v h' => v = stP (setL xs 0) (setL xs 1) (setL xs 2) t ∧ Keep h.length h h' := by
  obtain ⟨n, rfl⟩ : ∃ n, N = n + 1 := ⟨N - 1, by omega⟩
  rw [impl_standingOf.call_eq]
  unfold impl_standingOf.main
  simp only [env_lf, env_alloc, env_build, env_store]
  refine walS fun h1 id1 o1 k1 l1 => ?_
  refine wbd (bldSt t) ?_
  dsimp only
  refine walS fun h2 id2 o2 k2 l2 => ?_
  dsimp only
  have o1' := o1.keep k2
  have hne : id1 ≠ id2 := by have := o1.lt; omega
  refine wstS o2 fun h3 o3 k3 => ?_
  have o13 := o1'.kb k3 hne
  have kk : Keep h.length h h3 := (k1.trans (k2.mono k1.1)).kbs (Nat.le_refl _) k3 (Nat.le_trans k1.1 l2)
  have ll2 : h.length ≤ id2 := Nat.le_trans k1.1 l2
  refine loopW (fun m' st => ∃ (P u v w : Nat) (h4 : PHeap), st = impl_standingOf.st0 p (.ptr id1 0) (.ptr id2 0) (.int .i64 (P : Int)) h4 ∧ P + m' = 3 ∧ At h4 id2 (stC u v w t) ∧ At h4 id1 (stC 0 0 0 0) ∧ Keep h.length h h4 ∧ (1 ≤ P → u = setL xs 0) ∧ (2 ≤ P → v = setL xs 1) ∧ (3 ≤ P → w = setL xs 2)) ?_ lf 3 _ (by omega) ⟨0, 0, 0, 0, h3, rfl, rfl, o3, o13, kk, by omega, by omega, by omega⟩
  rintro n1 m1 st ⟨P, u, v, w, h4, rfl, hPm, o4, o14, k4, hu, hv, hw⟩ next
  have hP : P = 0 ∨ P = 1 ∨ P = 2 ∨ P = 3 := by omega
  have hp4 := hp.keep k4
  have e0 := setOf_W g lf ((0 : Nat) : Int) hp4 hl n (by omega) hlf
  have e1 := setOf_W g lf ((1 : Nat) : Int) hp4 hl n (by omega) hlf
  have e2 := setOf_W g lf ((2 : Nat) : Int) hp4 hl n (by omega) hlf
  rw [impl_standingOf.body0_eq]
  unfold impl_standingOf.body0
  simp only [env_C, env_store, env_bin, env_fieldAddr, env_indexAddr]
  rcases hP with rfl | rfl | rfl | rfl
  · repeat (first | with_reducible refine wT ?_ | with_reducible refine wbd (by assumption) ?_ | (with_reducible refine wbd (fSt0 _) ?_) | (with_reducible refine wia3 (by omega) ?_) | with_reducible refine wlssT (by omega) ?_ | dsimp only)
    refine wst1 o4 (show 0 + 0 < 4 by decide) fun h5 o5 k5 => ?_
    repeat (first | with_reducible refine wadd1 (by omega) ?_)
    exact next _ _ (show 2 < m1 by omega) ⟨1, setL xs 0, v, w, h5, rfl, rfl, o5, o14.kb k5 hne, k4.kbs (Nat.le_refl _) k5 ll2, fun _ => rfl, by omega, by omega⟩
  · repeat (first | with_reducible refine wT ?_ | with_reducible refine wbd (by assumption) ?_ | (with_reducible refine wbd (fSt0 _) ?_) | (with_reducible refine wia3 (by omega) ?_) | with_reducible refine wlssT (by omega) ?_ | dsimp only)
    refine wst1 o4 (show 0 + 1 < 4 by decide) fun h5 o5 k5 => ?_
    repeat (first | with_reducible refine wadd1 (by omega) ?_)
    exact next _ _ (show 1 < m1 by omega) ⟨2, u, setL xs 1, w, h5, rfl, rfl, o5, o14.kb k5 hne, k4.kbs (Nat.le_refl _) k5 ll2, fun _ => hu (by decide), fun _ => rfl, by omega⟩
  · repeat (first | with_reducible refine wT ?_ | with_reducible refine wbd (by assumption) ?_ | (with_reducible refine wbd (fSt0 _) ?_) | (with_reducible refine wia3 (by omega) ?_) | with_reducible refine wlssT (by omega) ?_ | dsimp only)
    refine wst1 o4 (show 0 + 2 < 4 by decide) fun h5 o5 k5 => ?_
    repeat (first | with_reducible refine wadd1 (by omega) ?_)
    exact next _ _ (show 0 < m1 by omega) ⟨3, u, v, setL xs 2, h5, rfl, rfl, o5, o14.kb k5 hne, k4.kbs (Nat.le_refl _) k5 ll2, fun _ => hu (by decide), fun _ => hv (by decide), fun _ => rfl⟩
  · repeat (first | with_reducible refine wF ?_ | (with_reducible refine wbd (ldS (by assumption)) ?_) | with_reducible refine wlssF (by omega) ?_ | rw [kLoop_exit] | rw [impl_standingOf.after0_se0_0_4_5_9_10] | simp only [env_C, env_g, env_lf, env_pick, env_alloc, env_box, env_build, env_buildSlice, env_load, env_store, env_ptr, env_bin, env_un, env_conv, env_make, env_slice, env_fieldAddr, env_field, env_indexAddr, env_index, env_extract, env_len, env_append, env_max, env_min, env_makeMap, env_lookup, env_update])
    refine wstS o14 fun h5 o5 k5 => ?_
    repeat (first | (with_reducible refine wbd (ldS (by assumption)) ?_))
    exact W.ret ⟨by rw [hu (by decide), hv (by decide), hw (by decide)], k4.kbs (Nat.le_refl _) k5 l1⟩

theorem stands_of {R C T : Nat} {xs : List Int} (hS : Sides (R : Int) (C : Int) R C xs) (hT : T = 1 ∨ T = 2) : Stands R C (setL xs 0) (setL xs 1) (setL xs 2) T := by
  refine ⟨pos_sets hS, set_lt9 hS 0, fun k => ?_, hT⟩
  rw [setL_bit]
  constructor
  · intro hk
    have hkl := set_in hS (setL_bit.2 hk)
    exact ⟨hkl, (free_bit hS hkl).2 hk⟩
  · rintro ⟨h1, h2⟩; exact (free_bit hS h1).1 h2

end Go.Proofs.YtfgjbfaapbhppaaDoor

/- The program's chapter 3: MoveOk, Played, WinnerOf, WinningCells and LinePlayed compute what the model's do. -/
namespace Go.Proofs.YtfgjbfaapbhppaaDoor
open Go Go.Ip G

variable (g : Nat → PV) (lf n : Nat)

/-! ### moves -/
/-! ### who wins -/
theorem winnerOk (hbig : Big g) (hlf : 1000 < lf) : WinnerOk g lf := by
  intro N hN r c t xs p h ht hp hl hf
  obtain ⟨n, rfl⟩ : ∃ n, N = n + 1 := ⟨N - 1, by omega⟩
  have hpos := positionOk_N g lf n (by omega) r c hp (by omega) hf
  have hplay := playerOk_W g lf n (by omega) h t
  have : W (CL g lf (n + 1) fn_impl_WinnerOf [.int .i64 r, .int .i64 c, p, .int .i64 t] h) fun v h' => v = .int .i64 (winL r c xs t) ∧ Keep h.length h h' := by
    rw [impl_WinnerOf.call_eq]
    unfold impl_WinnerOf.main
    simp only [env_C, env_pick, env_un]
    cases hb : posB r c xs with
    | false =>
      rw [hb] at hpos
      repeat (first | with_reducible refine wT ?_ | with_reducible refine wg0 rfl ?_ | with_reducible refine wpT ?_ | with_reducible refine wnF ?_ | with_reducible refine wsm ?_ | with_reducible refine wrI ?_ | with_reducible refine wbd (by assumption) ?_ | dsimp only)
      exact W.ret ⟨by rw [winL_none (.inl hb)], Keep.refl _ _⟩
    | true =>
      rw [hb] at hpos
      cases hpl : playerB t with
      | false =>
        rw [hpl] at hplay
        repeat (first | with_reducible refine wT ?_ | with_reducible refine wg1 rfl ?_ | with_reducible refine wpF ?_ | with_reducible refine wnT ?_ | with_reducible refine wnF ?_ | with_reducible refine wpv ?_ | with_reducible refine wsm ?_ | with_reducible refine wrI ?_ | with_reducible refine wbd (by assumption) ?_ | dsimp only)
        refine W.ret ⟨?_, Keep.refl _ _⟩
        unfold winL; rw [hpl, Bool.and_false]; rfl
      | true =>
        rw [hpl] at hplay
        obtain ⟨R, C, hS⟩ := sides_of hb
        obtain ⟨T, rfl, hT⟩ := player_of hpl
        have hB := board_of_sides hS
        obtain ⟨rfl, rfl, _, _, _, _, h9, hlen, _⟩ := id hS
        repeat (first | with_reducible refine wF ?_ | with_reducible refine wg1 rfl ?_ | with_reducible refine wpF ?_ | with_reducible refine wnT ?_ | with_reducible refine wpv ?_ | with_reducible refine wsm ?_ | with_reducible refine wbd (by assumption) ?_ | dsimp only)
        refine wcall (newSearch_W g lf hB n (by omega) hlf ht.1) fun v h1 ⟨s, m, hv, hs, k1, l1, l2⟩ => ?_
        subst hv
        repeat (first | dsimp only)
        refine wcall (standingOf_W g lf (hp.keep k1) (by omega) T n (by omega) hlf) fun v h2 ⟨hv, k2⟩ => ?_
        subst hv
        repeat (first | dsimp only)
        refine wcall (sWinner_W g lf hB hbig hlf 9 _ _ _ _ n h2 (Nat.le_trans (fr_le _ _ _) h9) (stands_of hS hT) (by omega) (hs.keep k2) ((ht.2.keep k1).keep k2)) fun v h3 ⟨hv, hs3, k3⟩ => ?_
        subst hv
        repeat (first | with_reducible refine wrI ?_ | dsimp only)
        exact W.ret ⟨by rw [winL_eq hb hT], (k1.trans (k2.mono k1.1)).kbs (Nat.le_refl _) k3 l2⟩
  obtain ⟨_, h', e, rfl, k⟩ := this
  exact ⟨h', e, k⟩

theorem who_zero {R C : Nat} {xs : List Int} (hb : posB (R : Int) (C : Int) xs = true) : whoN R C (setL xs 1) (setL xs 2) = 0 ↔ joinsL (R : Int) (C : Int) xs 1 = false ∧ joinsL (R : Int) (C : Int) xs 2 = false := by
  rw [joins_one hb, joins_two hb]
  unfold whoN
  cases joinsN R C 1 (setL xs 1) <;> cases joinsN R C 2 (setL xs 2) <;> simp

/-- The winning cells, out of the set that the search finds. -/
theorem winCells_list {R C T S : Nat} {xs : List Int} (hb : posB (R : Int) (C : Int) xs = true) (hS : Sides (R : Int) (C : Int) R C xs) (hT : T = 1 ∨ T = 2)
    (hSb : ∀ k, S.testBit k = true ↔ whoN R C (setL xs 1) (setL xs 2) = 0 ∧ (setL xs 0).testBit k = true ∧ winN R C (putA T k (setL xs 1)) (putB T k (setL xs 2)) (3 - T) = T) :
    winCellsL (R : Int) (C : Int) xs (T : Int) = listN S := by
  have hx9 : xs.length ≤ 9 := by have := hS.2.2.2.2.2.2.2.1; have := hS.2.2.2.2.2.2.1; omega
  have hT' : 3 - T = 1 ∨ 3 - T = 2 := by omega
  have e3 : (3 : Int) - (T : Int) = ((3 - T : Nat) : Int) := by omega
  rw [listN_filter]
  unfold winCellsL
  congr 1
  have h9 : List.range 9 = List.range xs.length ++ (List.range' xs.length (9 - xs.length)) := by
    rw [List.range_eq_range', List.range_eq_range', show 9 = xs.length + (9 - xs.length) by omega, ← List.range'_append_1]; simp
  rw [h9, List.filter_append]
  have hnil : (List.range' xs.length (9 - xs.length)).filter (fun k => S.testBit k) = [] := by
    rw [List.filter_eq_nil_iff]
    intro k hk
    rw [List.mem_range'_1] at hk
    intro h
    have := ((hSb k).1 h).2.1
    have := set_in hS this
    have := hS.2.2.2.2.2.2.2.1
    omega
  rw [hnil, List.append_nil]
  apply List.filter_congr
  intro k hk
  rw [Bool.eq_iff_iff, winsB_iff, moveL_iff, hSb, who_zero hb, setL_bit]
  constructor
  · rintro ⟨⟨_, _, h3, h4, h5⟩, h6⟩
    rw [e3, winL_set hb hT hT' h3] at h6
    exact ⟨⟨h4, h5⟩, h3, by omega⟩
  · rintro ⟨⟨h4, h5⟩, h3, h6⟩
    refine ⟨⟨hb, playerB_of hT, h3, h4, h5⟩, ?_⟩
    rw [e3, winL_set hb hT hT' h3]; omega

/-! ### a line -/
theorem listN_head {S : Nat} (hS : S < 2 ^ 9) (h0 : S ≠ 0) (d : Int) : (listN S).headD d = (lowN S : Int) := by
  have hl := (low_ok hS h0).1
  have h9 := (low_ok hS h0).2.1
  rw [listN_filter]
  unfold lowN at *
  cases hf : (List.range 9).find? fun k => S.testBit k with
  | none =>
    rw [hf] at hl h9
    exact absurd h9 (by decide)
  | some k =>
    have : ((List.range 9).filter fun k => S.testBit k).head? = some k := by rw [List.head?_filter, hf]
    cases hq : (List.range 9).filter fun k => S.testBit k with
    | nil => rw [hq] at this; cases this
    | cons a l =>
      rw [hq] at this
      cases this
      rfl

/-- A list of integers at an object of its own. -/
def SlAt (i : Nat) (h : PHeap) (p : PV) (ys : List Int) : Prop := (p = .nilsl ∧ ys = []) ∨ (p = .sl i 0 ys.length ∧ At h i (ys.map (.int .i64)))
theorem SlAt.keep {i : Nat} {h h' : PHeap} {p : PV} {ys : List Int} (s : SlAt i h p ys) (k : Keep h.length h h') : SlAt i h' p ys := by
  rcases s with s | ⟨a, b⟩
  · exact .inl s
  · exact .inr ⟨a, b.keep k⟩
theorem SlAt.kb {i m : Nat} {h h' : PHeap} {p : PV} {ys : List Int} (s : SlAt i h p ys) (k : KB m h h') (hn : i ≠ m) : SlAt i h' p ys := by
  rcases s with s | ⟨a, b⟩
  · exact .inl s
  · exact .inr ⟨a, b.kb k hn⟩
theorem SlAt.own {i n : Nat} {h : PHeap} {p : PV} {ys : List Int} (s : SlAt i h p ys) (hn : n ≤ i) : OwnSl n h p ys := by
  rcases s with s | ⟨a, b⟩
  · exact .inl s
  · exact .inr ⟨i, hn, a, b⟩
theorem wapS {Q : PV → PHeap → Prop} {i : Nat} {h : PHeap} {p : PV} {ys : List Int} (s : SlAt i h p ys) {x : Int} (hl : ys.length + 1 ≤ 2 ^ 36) {F : PV × PHeap → Res}
    (hf : ∀ p' h' j, SlAt j h' p' (ys ++ [x]) → KB i h h' → h.length ≤ j → W (F (p', h')) Q) :
    W ((buildSliceP Tryd.prog 23 1 [(0, .int .i64 x)] h).bind fun v => (appendP Tryd.prog 23 23 p v.1 v.2).bind F) Q := by
  have hb : buildSliceP Tryd.prog 23 1 [(0, .int .i64 x)] h = some (.sl h.length 0 1, h ++ [.own 1 [.int .i64 x]]) := by
    simp [buildSliceP, tyElem, tySize, tyZero, repeatCells, fillP, PV.cells, setCells]
  have hsrc : srcP (h ++ [.own 1 [.int .i64 x]]) 1 (.sl h.length 0 1) = some (1, [.int .i64 x]) := by
    simp [srcP, cellsAt, PObj.get]
  refine wbd hb ?_
  rcases s with ⟨rfl, rfl⟩ | ⟨rfl, h3⟩
  · refine wbd (v := (.sl (h.length + 1) 0 1, h ++ [.own 1 [.int .i64 x]] ++ [.own 1 [.int .i64 x]])) (by simp [appendP, tyElem, tySize, tySmall, hsrc]) ?_
    refine hf _ _ (h.length + 1) (.inr ⟨rfl, ?_⟩) ?_ (by omega)
    · unfold At; rw [List.getElem?_append_right (by simp)]; simp
    · rw [List.append_assoc]; exact (Keep.append _ _ _ (Nat.le_refl _)).kb
  · have hid := h3.lt
    have h3' : (h ++ [PObj.own 1 [.int .i64 x]])[i]? = some (.own 1 (ys.map (.int .i64))) := by rw [List.getElem?_append_left hid]; exact h3
    refine wbd (v := (.sl (h.length + 1) 0 (ys.length + 1), ((h ++ [PObj.own 1 [.int .i64 x]]).set i .dead ++ [PObj.own 1 (ys.map (.int .i64) ++ [.int .i64 x])]))) (by simp [appendP, tyElem, tySize, tySmall, hsrc, h3', hl]) ?_
    refine hf _ _ (h.length + 1) (.inr ⟨by simp, ?_⟩) ?_ (by omega)
    · unfold At; rw [List.getElem?_append_right (by simp)]; simp
    · refine ⟨by simp; omega, fun j hj hne => ?_⟩
      rw [List.getElem?_append_left (by simp; omega), List.getElem?_set_ne (by omega), List.getElem?_append_left hj]
theorem Sch.kbo {R C s m i : Nat} {h h' : PHeap} (hs : Sch R C h s m) (k : KB i h h') (h1 : s ≠ i) (h2 : m ≠ i) : Sch R C h' s m := by
  obtain ⟨a, es, b, c⟩ := hs; exact ⟨a.kb k h1, es, b.kb k h2, c⟩
theorem wresSl {Q : PV → PHeap → Prop} {i : Nat} {h : PHeap} {p : PV} {ys : List Int} (s : SlAt i h p ys) {f : PV → Res} (hf : W (f p) Q) : W ((resV p).bind f) Q := wbd (s.own (Nat.le_refl i)).res hf

theorem goB_who {R C : Nat} {xs : List Int} (hb : posB (R : Int) (C : Int) xs = true) : goB (R : Int) (C : Int) xs = (!decide (setL xs 0 = 0) && decide (whoN R C (setL xs 1) (setL xs 2) = 0)) := by
  have hw := who_zero (R := R) (C := C) hb
  unfold goB
  rw [Bool.and_assoc]
  congr 1
  rw [Bool.eq_iff_iff, decide_eq_true_iff, hw]
  simp

end Go.Proofs.YtfgjbfaapbhppaaDoor

/- All sets of the cells of a set, in ascending order, by a carry that passes over the other cells. No program text. -/
namespace Go.Proofs.YtfgjbfaapbhppaaDoor
open Go Go.Ip G

/-- All sets of the cells of a list, the first cell the fastest. -/
def partsN : List Nat → List Nat
  | [] => [0]
  | c :: l => (partsN l).flatMap fun x => [x, x ||| (1 <<< c)]
theorem countP_two (p : Nat → Bool) (b : Nat) : ∀ L : List Nat, (L.flatMap fun x => [x, x ||| b]).countP p = L.countP p + L.countP (fun x => p (x ||| b))
  | [] => rfl
  | x :: L => by
    rw [List.flatMap_cons, List.countP_append, countP_two p b L]
    simp only [List.countP_cons, List.countP_nil]
    omega
theorem parts_cnt (J : Nat → Bool) : ∀ (l : List Nat) (s : Nat), (partsN l).countP (fun x => J (s ||| x)) = cntN J s l
  | [], s => by simp [partsN, cntN, List.countP_cons]
  | c :: l, s => by
    rw [partsN, countP_two, cntN, parts_cnt J l s, ← parts_cnt J l (s ||| (1 <<< c))]
    congr 1
    apply List.countP_congr
    intro x _
    rw [Nat.or_assoc, Nat.or_comm x]
theorem partsN_length : ∀ l : List Nat, (partsN l).length = 2 ^ l.length
  | [] => rfl
  | c :: l => by
    rw [partsN, List.length_cons, Nat.pow_succ, ← partsN_length l]
    generalize partsN l = L
    induction L with
    | nil => rfl
    | cons x L ih => rw [List.flatMap_cons, List.length_append, ih, List.length_cons]; simp only [List.length_cons, List.length_nil]; omega

/-- What is computed: all cells outside of the set and those of p, one more, in the set. -/
def outI (F : Int) : Int := IntKind.i64.wrap ((BitVec.ofInt IntKind.i64.bits (if IntKind.i64.signed then -1 else IntKind.i64.max) ^^^ BitVec.ofInt IntKind.i64.bits F).toNat)
def orI (a b : Int) : Int := IntKind.i64.wrap ((BitVec.ofInt IntKind.i64.bits a ||| BitVec.ofInt IntKind.i64.bits b).toNat)
def andI (a b : Int) : Int := IntKind.i64.wrap ((BitVec.ofInt IntKind.i64.bits a &&& BitVec.ofInt IntKind.i64.bits b).toNat)
def nextI (F p : Int) : Int := andI (IntKind.i64.wrap (orI p (outI F) + 1)) F
def chainB (F : Nat) : Nat → List Nat → Bool
  | p, [] => p == F
  | p, q :: l => p != F && (nextI (F : Int) (p : Int) == (q : Int)) && chainB F q l
def chainsB (F : Nat) : Bool := match partsN (cellsN F) with
  | [] => false
  | p :: l => p == 0 && chainB F 0 l
theorem chains_all : ((List.range 32).all fun a => (List.range 16).all fun b => chainsB (a * 16 + b)) = true := by kernel_rfl
theorem chain_of {F : Nat} (hF : F < 2 ^ 9) : ∃ l, partsN (cellsN F) = 0 :: l ∧ chainB F 0 l = true := by
  have h := List.all_eq_true.1 (List.all_eq_true.1 chains_all (F / 16) (List.mem_range.2 (by omega))) (F % 16) (List.mem_range.2 (Nat.mod_lt _ (by decide)))
  rw [show F / 16 * 16 + F % 16 = F by omega] at h
  unfold chainsB at h
  split at h
  · cases h
  · rename_i p l e
    rw [Bool.and_eq_true, beq_iff_eq] at h
    obtain ⟨rfl, h⟩ := h
    exact ⟨l, e, h⟩
theorem partsN_le {x n : Nat} : ∀ {l : List Nat}, (∀ c ∈ l, c < n) → x ∈ partsN l → x < 2 ^ n
  | [], _, hx => by
    rw [partsN, List.mem_singleton] at hx
    rw [hx]; exact Nat.two_pow_pos n
  | c :: l, hl, hx => by
    rw [partsN, List.mem_flatMap] at hx
    obtain ⟨y, hy, hx⟩ := hx
    have h1 := partsN_le (fun d hd => hl d (List.mem_cons_of_mem _ hd)) hy
    have hc := hl c (List.mem_cons_self ..)
    simp only [List.mem_cons, List.not_mem_nil, or_false] at hx
    rcases hx with rfl | rfl
    · exact h1
    · refine Nat.or_lt_two_pow h1 ?_
      rw [Nat.one_shiftLeft]; exact Nat.pow_lt_pow_right (by decide) hc
theorem partsN_sub {x j : Nat} : ∀ {l : List Nat}, x ∈ partsN l → x.testBit j = true → j ∈ l
  | [], hx, hj => by
    rw [partsN, List.mem_singleton] at hx
    rw [hx, Nat.zero_testBit] at hj; cases hj
  | c :: l, hx, hj => by
    rw [partsN, List.mem_flatMap] at hx
    obtain ⟨y, hy, hx⟩ := hx
    simp only [List.mem_cons, List.not_mem_nil, or_false] at hx
    rcases hx with rfl | rfl
    · exact List.mem_cons_of_mem _ (partsN_sub hy hj)
    · rw [Nat.testBit_or, Bool.or_eq_true] at hj
      rcases hj with hj | hj
      · exact List.mem_cons_of_mem _ (partsN_sub hy hj)
      · rw [one_bit] at hj
        have : j = c := by simpa using hj
        rw [this]; exact List.mem_cons_self ..

end Go.Proofs.YtfgjbfaapbhppaaDoor

/- The program's chapter 5: all fillings of the free cells one after another, those that are won, those that a stone decides, and the cells that do not matter. -/
namespace Go.Proofs.YtfgjbfaapbhppaaDoor
open Go Go.Ip G

section
variable {Q : PV → PHeap → Prop} {f : PV → Res} {h : PHeap}
theorem wout {F : Int} (hf : W (f (.int .i64 (outI F))) Q) : W ((unP .xor (.int .i64 F)).bind f) Q := hf
theorem worI {a b : Int} (hf : W (f (.int .i64 (orI a b))) Q) : W ((binP Tryd.prog .or 3 (.int .i64 a) (.int .i64 b)).bind f) Q := wbd (by simp only [binP, binI, if_true, orI]) hf
theorem wandI {a b : Int} (hf : W (f (.int .i64 (andI a b))) Q) : W ((binP Tryd.prog .and 3 (.int .i64 a) (.int .i64 b)).bind f) Q := wbd (by simp only [binP, binI, if_true, andI]) hf
theorem waddW {a b : Int} (hf : W (f (.int .i64 (IntKind.i64.wrap (a + b)))) Q) : W ((binP Tryd.prog .add 3 (.int .i64 a) (.int .i64 b)).bind f) Q := wbd (by rw [bin_add]) hf
/-- A list of one number. -/
theorem wone {F : PV × PHeap → Res} {x : Int} (hf : ∀ p h', OwnSl h.length h' p [x] → Keep h.length h h' → W (F (p, h')) Q) : W ((buildSliceP Tryd.prog 23 1 [(0, .int .i64 x)] h).bind F) Q := by
  have hb : buildSliceP Tryd.prog 23 1 [(0, .int .i64 x)] h = some (.sl h.length 0 1, h ++ [.own 1 [.int .i64 x]]) := by
    simp [buildSliceP, tyElem, tySize, tyZero, repeatCells, fillP, PV.cells, setCells]
  exact wbd hb (hf _ _ (.inr ⟨h.length, Nat.le_refl _, rfl, by simp⟩) (Keep.append _ _ _ (Nat.le_refl _)))
end

theorem cellsN_nine (S : Nat) : (cellsN S).length ≤ 9 := by
  unfold cellsN
  have := List.length_filter_le S.testBit (List.range 9)
  rwa [List.length_range] at this
theorem partsN_most (S : Nat) : (partsN (cellsN S)).length ≤ 512 := by
  rw [partsN_length]
  exact Nat.pow_le_pow_right (by decide) (cellsN_nine S)

variable (g : Nat → PV) (lf n : Nat)

theorem partsOf_W {F : Nat} (hF : F < 2 ^ 9) (N : Nat) (hN : 1 ≤ N) (hlf : 1000 < lf) (h : PHeap) :
    W (CL g lf N fn_impl_partsOf [.int .i64 (F : Int)] h) fun q h' => OwnSl h.length h' q ((partsN (cellsN F)).map fun x : Nat => (x : Int)) ∧ Keep h.length h h' := by
  obtain ⟨n, rfl⟩ : ∃ n, N = n + 1 := ⟨N - 1, by omega⟩
  obtain ⟨l, hl, hc⟩ := chain_of hF
  have hmost := partsN_most F
  have hll : l.length < 512 := by rw [hl, List.length_cons] at hmost; omega
  rw [impl_partsOf.call_eq]
  unfold impl_partsOf.main
  simp only [env_lf, env_buildSlice]
  refine wone fun q1 h1 o1 k1 => ?_
  refine loopW (fun m s => ∃ (p : Nat) (ys l : List Nat) (q : PV) (h2 : PHeap), s = impl_partsOf.st0 (.int .i64 (F : Int)) q (.int .i64 (p : Int)) h2 ∧ m = l.length ∧ ys ++ l = partsN (cellsN F) ∧ chainB F p l = true ∧ OwnSl h.length h2 q (ys.map fun x : Nat => (x : Int)) ∧ Keep h.length h h2) ?_ lf l.length _ (by omega)
    ⟨0, [0], l, q1, h1, rfl, rfl, by rw [hl]; rfl, hc, o1, k1⟩
  rintro n1 m s ⟨p, ys, l, q, h2, rfl, rfl, hys, hc, o2, k2⟩ next
  rw [impl_partsOf.body0_eq]
  unfold impl_partsOf.body0
  simp only [env_buildSlice, env_bin, env_un, env_append]
  cases l with
  | nil =>
    rw [chainB, beq_iff_eq] at hc
    subst hc
    rw [List.append_nil] at hys
    repeat (first | with_reducible refine wF ?_ | with_reducible refine wneqF (by omega) ?_ | with_reducible refine wresO (by assumption) ?_ | rw [kLoop_exit] | rw [impl_partsOf.after0_se0_0_3_4_8])
    exact W.ret ⟨hys ▸ o2, k2⟩
  | cons x l =>
    rw [chainB, Bool.and_eq_true, Bool.and_eq_true, bne_iff_ne, beq_iff_eq] at hc
    obtain ⟨⟨hne, hnx⟩, hc⟩ := hc
    have hyl : ys.length ≤ 512 := by rw [← hys, List.length_append] at hmost; omega
    repeat (first | with_reducible refine wT ?_ | with_reducible refine wneqT (by omega) ?_)
    refine wout ?_
    refine worI ?_
    refine waddW ?_
    refine wandI ?_
    rw [show andI (IntKind.i64.wrap (orI (p : Int) (outI (F : Int)) + 1)) (F : Int) = (x : Int) from hnx]
    refine wap o2 k2.1 (by rw [List.length_map]; omega) fun p' h3 o3 k3 => ?_
    repeat (first | dsimp only)
    exact next _ _ (by rw [List.length_cons]; omega) ⟨x, ys ++ [x], l, p', h3, rfl, rfl, by rw [List.append_assoc]; exact hys, hc, by rw [List.map_append]; exact o3, k2.trans k3⟩

/-! ### fillings that are won -/
theorem part_lt {R C : Nat} {r c : Int} {xs : List Int} {x S : Nat} (hS : Sides r c R C xs) (hSF : ∀ j, S.testBit j = true → (setL xs 0).testBit j = true) (hx : x ∈ partsN (cellsN S)) : x < 2 ^ (R * C) :=
  partsN_le (fun k hk => set_in hS (w := 0) (hSF k (by unfold cellsN at hk; exact (List.mem_filter.1 hk).2))) hx

theorem fillOk (hbig : Big g) (hlf : 1000 < lf) : FillOk g lf := by
  intro N hN r c pl xs p h ht hp hl hf
  obtain ⟨n, rfl⟩ : ∃ n, N = n + 1 := ⟨N - 1, by omega⟩
  have hpos := positionOk_N g lf n (by omega) r c hp (by omega) hf
  have hplay := playerOk_W g lf n (by omega) h pl
  have : W (CL g lf (n + 1) fn_impl_FillCount [.int .i64 r, .int .i64 c, p, .int .i64 pl] h) fun v h' => v = .int .i64 (countL r c xs pl) ∧ Keep h.length h h' := by
    rw [impl_FillCount.call_eq]
    unfold impl_FillCount.main
    simp only [env_C, env_lf, env_pick, env_un, env_len]
    cases hb : posB r c xs with
    | false =>
      rw [hb] at hpos
      repeat (first | with_reducible refine wT ?_ | with_reducible refine wg0 rfl ?_ | with_reducible refine wpT ?_ | with_reducible refine wnF ?_ | with_reducible refine wsm ?_ | with_reducible refine wrI ?_ | with_reducible refine wbd (by assumption) ?_ | dsimp only)
      exact W.ret ⟨by unfold countL; rw [hb]; rfl, Keep.refl _ _⟩
    | true =>
      rw [hb] at hpos
      cases hpl : playerB pl with
      | false =>
        rw [hpl] at hplay
        repeat (first | with_reducible refine wT ?_ | with_reducible refine wg1 rfl ?_ | with_reducible refine wpF ?_ | with_reducible refine wnT ?_ | with_reducible refine wnF ?_ | with_reducible refine wpv ?_ | with_reducible refine wsm ?_ | with_reducible refine wrI ?_ | with_reducible refine wbd (by assumption) ?_ | dsimp only)
        exact W.ret ⟨by unfold countL; rw [hpl, Bool.and_false]; rfl, Keep.refl _ _⟩
      | true =>
        rw [hpl] at hplay
        obtain ⟨R, C, hS⟩ := sides_of hb
        obtain ⟨P, rfl, hP⟩ := player_of hpl
        have hB := board_of_sides hS
        obtain ⟨rfl, rfl, _, _, _, _, h9, hlen, _⟩ := id hS
        rw [countL_eq hb hP]
        repeat (first | with_reducible refine wF ?_ | with_reducible refine wg1 rfl ?_ | with_reducible refine wpF ?_ | with_reducible refine wnT ?_ | with_reducible refine wpv ?_ | with_reducible refine wsm ?_ | with_reducible refine wbd (by assumption) ?_ | dsimp only)
        refine wcall (newSearch_W g lf hB n (by omega) hlf ht.1) fun v h1 ⟨s, m, hv, hs, k1, l1, l2⟩ => ?_
        subst hv
        have e1 := setOf_W g lf (P : Int) (hp.keep k1) (by omega) n (by omega) hlf
        have e2 := setOf_W g lf 0 (hp.keep k1) (by omega) n (by omega) hlf
        repeat (first | with_reducible refine wbd (by assumption) ?_ | dsimp only)
        refine wcall (partsOf_W g lf (set_lt9 hS 0) n (by omega) hlf h1) fun q h2 ⟨o2, k2⟩ => ?_
        obtain ⟨A, hA⟩ : ∃ A, A = setL xs (P : Int) := ⟨_, rfl⟩
        have hAl : A < 2 ^ (R * C) := hA ▸ set_lt hS (P : Int)
        have hxl : ∀ x ∈ partsN (cellsN (setL xs 0)), x < 2 ^ (R * C) := fun x hx => part_lt hS (fun _ h => h) hx
        have hmost := partsN_most (setL xs 0)
        have hcnt := parts_cnt (joinsN R C P) (cellsN (setL xs 0)) A
        rw [← hA]
        obtain ⟨L, hL⟩ : ∃ L, L = partsN (cellsN (setL xs 0)) := ⟨_, rfl⟩
        rw [← hL] at o2 hxl hmost hcnt
        have hs2 := hs.keep k2
        have h22 : 2 ^ (R * C) ≤ 2 ^ 9 := Nat.pow_le_pow_right (by decide) h9
        repeat (first | with_reducible refine wlen (OwnSl.int (by assumption)) ?_ | dsimp only)
        refine loopW (fun m' st => ∃ i cnt : Nat, st = impl_FillCount.st0 (.int .i64 (P : Int)) (.ptr s 0) (.int .i64 (A : Int)) (.int .i64 (cnt : Int)) q (.int .i64 ((L.map fun x : Nat => (x : Int)).length : Int)) (.int .i64 (i : Int)) h2 ∧ i + m' = L.length ∧ cnt ≤ i ∧ cnt + (L.drop i).countP (fun x => joinsN R C P (A ||| x)) = cntN (joinsN R C P) A (cellsN (setL xs 0))) ?_ lf L.length _ (by omega)
          ⟨0, 0, rfl, by omega, Nat.le_refl _, by rw [List.drop_zero, Nat.zero_add]; exact hcnt⟩
        rintro n1 m1 st ⟨i, cnt, rfl, him, hci, hc⟩ next
        rw [impl_FillCount.body0_eq]
        unfold impl_FillCount.body0
        simp only [env_C, env_load, env_bin, env_indexAddr]
        by_cases hi : i < L.length
        · have hdx : L.drop i = L[i] :: L.drop (i + 1) := List.drop_eq_getElem_cons hi
          have hil : i < (L.map fun x : Nat => (x : Int)).length := by rw [List.length_map]; exact hi
          have hlm : (L.map fun x : Nat => (x : Int)).length = L.length := List.length_map ..
          obtain ⟨a, ea, la⟩ := o2.int.at' hil
          rw [List.getElem_map] at la
          have hx := hxl L[i] (List.getElem_mem hi)
          obtain ⟨x, hxe⟩ : ∃ x, x = L[i] := ⟨_, rfl⟩
          rw [← hxe] at hdx la hx
          rw [hdx, List.countP_cons] at hc
          have hor : A ||| x < 2 ^ (R * C) := Nat.or_lt_two_pow hAl hx
          have e3 := joins_W g lf hB hP hor hbig hs2.1 ((ht.2.keep k1).keep k2) n (by omega) hlf
          have hA62 : A < 2 ^ 62 := by omega
          have hx62 : x < 2 ^ 62 := by omega
          cases hj : joinsN R C P (A ||| x) with
          | true =>
            rw [hj] at e3 hc
            repeat (first | with_reducible refine wT ?_ | with_reducible refine wbd (by assumption) ?_ | with_reducible refine wadd1 (by omega) ?_ | with_reducible refine wor (by omega) (by omega) ?_ | with_reducible refine wlssT (by omega) ?_ | dsimp only)
            exact next _ _ (show m1 - 1 < m1 by omega) ⟨i + 1, cnt + 1, rfl, by omega, by omega, by simp only [if_true] at hc; omega⟩
          | false =>
            rw [hj] at e3 hc
            repeat (first | with_reducible refine wT ?_ | with_reducible refine wF ?_ | with_reducible refine wbd (by assumption) ?_ | with_reducible refine wadd1 (by omega) ?_ | with_reducible refine wor (by omega) (by omega) ?_ | with_reducible refine wlssT (by omega) ?_ | dsimp only)
            exact next _ _ (show m1 - 1 < m1 by omega) ⟨i + 1, cnt, rfl, by omega, by omega, by simp only [Bool.false_eq_true, if_false] at hc; omega⟩
        · have hlm : (L.map fun x : Nat => (x : Int)).length = L.length := List.length_map ..
          rw [List.drop_eq_nil_of_le (by omega), List.countP_nil, Nat.add_zero] at hc
          repeat (first | with_reducible refine wF ?_ | with_reducible refine wrI ?_ | with_reducible refine wlssF (by omega) ?_ | rw [kLoop_exit] | rw [impl_FillCount.after0_se0_3_9_10_11_32_33_34_35])
          exact W.ret ⟨by rw [hc], k1.trans (k2.mono k1.1)⟩
  obtain ⟨_, h', e, rfl, k⟩ := this
  exact ⟨h', e, k⟩

/-! ### fillings that a stone decides -/
theorem pivot_W (hbig : Big g) (hlf : 1000 < lf) (N : Nat) (hN : 30 ≤ N) (r c k : Int) {xs : List Int} {p : PV} {h : PHeap} (ht : TabOk g h) (hp : IntSl .i64 h p xs) (hl : xs.length ≤ 2 ^ 35) (hf : xs.length < lf) :
    ∃ h', CL g lf N fn_impl_PivotCount [.int .i64 r, .int .i64 c, p, .int .i64 k] h = some (.int .i64 (pivotL r c xs k), h') ∧ Keep h.length h h' := by
  obtain ⟨n, rfl⟩ : ∃ n, N = n + 1 := ⟨N - 1, by omega⟩
  have hpos := positionOk_N g lf n (by omega) r c hp (by omega) hf
  have hcell := cellOk_N g lf n (by omega) h r c k
  have : W (CL g lf (n + 1) fn_impl_PivotCount [.int .i64 r, .int .i64 c, p, .int .i64 k] h) fun v h' => v = .int .i64 (pivotL r c xs k) ∧ Keep h.length h h' := by
    rw [impl_PivotCount.call_eq]
    unfold impl_PivotCount.main
    simp only [env_C, env_lf, env_pick, env_load, env_bin, env_un, env_indexAddr, env_len]
    cases hb : posB r c xs with
    | false =>
      rw [hb] at hpos
      have hfa : freeAt r c xs k = false := by unfold freeAt; rw [hb]; rfl
      repeat (first | with_reducible refine wT ?_ | with_reducible refine wg0 rfl ?_ | with_reducible refine wpT ?_ | with_reducible refine wnF ?_ | with_reducible refine wsm ?_ | with_reducible refine wrI ?_ | with_reducible refine wbd (by assumption) ?_ | dsimp only)
      exact W.ret ⟨by rw [pivotL_none hfa], Keep.refl _ _⟩
    | true =>
      rw [hb] at hpos
      obtain ⟨R, C, hS⟩ := sides_of hb
      have hB := board_of_sides hS
      obtain ⟨rfl, rfl, _, _, _, _, h9, hlen, _⟩ := id hS
      have hcb : cellB (R : Int) (C : Int) k = decide (0 ≤ k ∧ k < (xs.length : Int)) := by
        unfold cellB
        have hbb : boardB (R : Int) (C : Int) = true := by
          cases e : boardB (R : Int) (C : Int) with
          | false => rw [posB_board e] at hb; cases hb
          | true => rfl
        rw [hbb, Bool.true_and, hlen, Int.natCast_mul]
      rw [hcb] at hcell
      cases hk : decide (0 ≤ k ∧ k < (xs.length : Int)) with
      | false =>
        rw [hk] at hcell
        have hfa : freeAt (R : Int) (C : Int) xs k = false := by unfold freeAt; rw [hk, Bool.and_false]; rfl
        repeat (first | with_reducible refine wT ?_ | with_reducible refine wg1 rfl ?_ | with_reducible refine wg0 rfl ?_ | with_reducible refine wpT ?_ | with_reducible refine wpF ?_ | with_reducible refine wnT ?_ | with_reducible refine wnF ?_ | with_reducible refine wpv ?_ | with_reducible refine wsm ?_ | with_reducible refine wrI ?_ | with_reducible refine wbd (by assumption) ?_ | dsimp only)
        exact W.ret ⟨by rw [pivotL_none hfa], Keep.refl _ _⟩
      | true =>
        rw [hk] at hcell
        have hkb := of_decide_eq_true hk
        obtain ⟨K, rfl⟩ := Int.eq_ofNat_of_zero_le hkb.1
        have hK : K < xs.length := by omega
        obtain ⟨a0, ea0, la0⟩ := hp.at' hK
        by_cases hz : xs[K] = 0
        · have hk0 : xs[K]? = some 0 := by rw [List.getElem?_eq_getElem hK, hz]
          rw [pivotL_eq hb hk0]
          rw [hz] at la0
          repeat (first | with_reducible refine wF ?_ | with_reducible refine wg1 rfl ?_ | with_reducible refine wpF ?_ | with_reducible refine wnT ?_ | with_reducible refine wpv ?_ | with_reducible refine wsm ?_ | with_reducible refine wbd (by assumption) ?_ | with_reducible refine wneqF (by omega) ?_ | dsimp only)
          refine wcall (newSearch_W g lf hB n (by omega) hlf ht.1) fun v h1 ⟨s, m, hv, hs, k1, l1, l2⟩ => ?_
          subst hv
          have e1 := setOf_W g lf 1 (hp.keep k1) (by omega) n (by omega) hlf
          have e2 := setOf_W g lf 0 (hp.keep k1) (by omega) n (by omega) hlf
          have hF9 := set_lt9 hS 0
          have hK9 : K < 9 := by omega
          have hsl := shl_lt hK9
          have hw9 := without_lt9 (k := K) hF9
          have hmo : minusN (setL xs 0) (1 <<< K) = without (setL xs 0) K := minusN_one _ _
          repeat (first | with_reducible refine wbd (by assumption) ?_ | (rw [hmo]) | with_reducible refine wshl (by omega) ?_ | with_reducible refine wandNot (by omega) (by omega) ?_ | dsimp only)
          refine wcall (partsOf_W g lf hw9 n (by omega) hlf h1) fun q h2 ⟨o2, k2⟩ => ?_
          obtain ⟨A, hA⟩ : ∃ A, A = setL xs 1 := ⟨_, rfl⟩
          have hAl : A < 2 ^ (R * C) := hA ▸ set_lt hS 1
          have hxl : ∀ x ∈ partsN (cellsN (without (setL xs 0) K)), x < 2 ^ (R * C) := fun x hx => part_lt hS (fun j h => by rw [without_bit, Bool.and_eq_true] at h; exact h.1) hx
          have hmost := partsN_most (without (setL xs 0) K)
          have hcnt := parts_cnt (pivJ (joinsN R C 1) K) (cellsN (without (setL xs 0) K)) A
          rw [← hA]
          obtain ⟨L, hL⟩ : ∃ L, L = partsN (cellsN (without (setL xs 0) K)) := ⟨_, rfl⟩
          rw [← hL] at o2 hxl hmost hcnt
          have hs2 := hs.keep k2
          have h22 : 2 ^ (R * C) ≤ 2 ^ 9 := Nat.pow_le_pow_right (by decide) h9
          repeat (first | with_reducible refine wlen (OwnSl.int (by assumption)) ?_ | dsimp only)
          refine loopW (fun m' st => ∃ i cnt : Nat, st = impl_PivotCount.st0 (.ptr s 0) (.int .i64 (A : Int)) (.int .i64 ((1 <<< K : Nat) : Int)) (.int .i64 (cnt : Int)) q (.int .i64 ((L.map fun x : Nat => (x : Int)).length : Int)) (.int .i64 (i : Int)) h2 ∧ i + m' = L.length ∧ cnt ≤ i ∧ cnt + (L.drop i).countP (fun x => pivJ (joinsN R C 1) K (A ||| x)) = cntN (pivJ (joinsN R C 1) K) A (cellsN (without (setL xs 0) K))) ?_ lf L.length _ (by omega)
            ⟨0, 0, rfl, by omega, Nat.le_refl _, by rw [List.drop_zero, Nat.zero_add]; exact hcnt⟩
          rintro n1 m1 st ⟨i, cnt, rfl, him, hci, hc⟩ next
          rw [impl_PivotCount.body0_eq]
          unfold impl_PivotCount.body0
          simp only [env_C, env_pick, env_load, env_bin, env_un, env_indexAddr]
          have hlm : (L.map fun x : Nat => (x : Int)).length = L.length := List.length_map ..
          by_cases hi : i < L.length
          · have hdx : L.drop i = L[i] :: L.drop (i + 1) := List.drop_eq_getElem_cons hi
            have hil : i < (L.map fun x : Nat => (x : Int)).length := by rw [List.length_map]; exact hi
            obtain ⟨a, ea, la⟩ := o2.int.at' hil
            rw [List.getElem_map] at la
            have hx := hxl L[i] (List.getElem_mem hi)
            obtain ⟨x, hxe⟩ : ∃ x, x = L[i] := ⟨_, rfl⟩
            rw [← hxe] at hdx la hx
            rw [hdx, List.countP_cons] at hc
            unfold pivJ at hc
            have hor : A ||| x < 2 ^ (R * C) := Nat.or_lt_two_pow hAl hx
            have hor2 : A ||| x ||| (1 <<< K) < 2 ^ (R * C) := with_lt hor (by omega)
            have e3 : CL g lf n fn_impl_search_joins [.ptr s 0, .int .i64 ((A ||| x : Nat) : Int), .int .i64 1] h2 = some (.bool (joinsN R C 1 (A ||| x)), h2) := joins_W g lf hB (P := 1) (.inl rfl) hor hbig hs2.1 ((ht.2.keep k1).keep k2) n (by omega) hlf
            have e4 : CL g lf n fn_impl_search_joins [.ptr s 0, .int .i64 ((A ||| x ||| (1 <<< K) : Nat) : Int), .int .i64 1] h2 = some (.bool (joinsN R C 1 (A ||| x ||| (1 <<< K))), h2) := joins_W g lf hB (P := 1) (.inl rfl) hor2 hbig hs2.1 ((ht.2.keep k1).keep k2) n (by omega) hlf
            have hA62 : A < 2 ^ 62 := by omega
            have hx62 : x < 2 ^ 62 := by omega
            have ho62 : A ||| x < 2 ^ 62 := by omega
            cases hj : joinsN R C 1 (A ||| x ||| (1 <<< K)) with
            | true =>
              rw [hj] at e4 hc
              cases hj2 : joinsN R C 1 (A ||| x) with
              | true =>
                rw [hj2] at e3 hc
                repeat (first | with_reducible refine wT ?_ | with_reducible refine wF ?_ | with_reducible refine wg1 rfl ?_ | with_reducible refine wpT ?_ | with_reducible refine wnT ?_ | with_reducible refine wpv ?_ | with_reducible refine wsm ?_ | with_reducible refine wbd (by assumption) ?_ | with_reducible refine wadd1 (by omega) ?_ | with_reducible refine wor (by omega) (by omega) ?_ | with_reducible refine wlssT (by omega) ?_ | dsimp only)
                exact next _ _ (show m1 - 1 < m1 by omega) ⟨i + 1, cnt, rfl, by omega, by omega, by simp only [Bool.not_true, Bool.and_false, Bool.false_eq_true, if_false] at hc; exact hc⟩
              | false =>
                rw [hj2] at e3 hc
                repeat (first | with_reducible refine wT ?_ | with_reducible refine wg1 rfl ?_ | with_reducible refine wpT ?_ | with_reducible refine wnF ?_ | with_reducible refine wpv ?_ | with_reducible refine wsm ?_ | with_reducible refine wbd (by assumption) ?_ | with_reducible refine wadd1 (by omega) ?_ | with_reducible refine wor (by omega) (by omega) ?_ | with_reducible refine wlssT (by omega) ?_ | dsimp only)
                exact next _ _ (show m1 - 1 < m1 by omega) ⟨i + 1, cnt + 1, rfl, by omega, by omega, by simp only [Bool.not_false, Bool.and_true, if_true] at hc; unfold pivJ; omega⟩
            | false =>
              rw [hj] at e4 hc
              repeat (first | with_reducible refine wT ?_ | with_reducible refine wF ?_ | with_reducible refine wg0 rfl ?_ | with_reducible refine wpF ?_ | with_reducible refine wsm ?_ | with_reducible refine wbd (by assumption) ?_ | with_reducible refine wadd1 (by omega) ?_ | with_reducible refine wor (by omega) (by omega) ?_ | with_reducible refine wlssT (by omega) ?_ | dsimp only)
              exact next _ _ (show m1 - 1 < m1 by omega) ⟨i + 1, cnt, rfl, by omega, by omega, by simp only [Bool.false_and, Bool.false_eq_true, if_false] at hc; exact hc⟩
          · rw [List.drop_eq_nil_of_le (by omega), List.countP_nil, Nat.add_zero] at hc
            repeat (first | with_reducible refine wF ?_ | with_reducible refine wrI ?_ | with_reducible refine wlssF (by omega) ?_ | rw [kLoop_exit] | rw [impl_PivotCount.after0_se0_9_10_11_12_45_46_47_48])
            exact W.ret ⟨by rw [hc], k1.trans (k2.mono k1.1)⟩
        · have hfa : freeAt (R : Int) (C : Int) xs (K : Int) = false := by
            cases e : freeAt (R : Int) (C : Int) xs (K : Int) with
            | false => rfl
            | true =>
              have := (freeAt_iff.1 e).2
              rw [List.getElem?_eq_getElem hK] at this
              exact (hz (Option.some.inj this)).elim
          repeat (first | with_reducible refine wT ?_ | with_reducible refine wg1 rfl ?_ | with_reducible refine wpF ?_ | with_reducible refine wnT ?_ | with_reducible refine wpv ?_ | with_reducible refine wsm ?_ | with_reducible refine wrI ?_ | with_reducible refine wbd (by assumption) ?_ | with_reducible refine wneqT (by omega) ?_ | dsimp only)
          exact W.ret ⟨by rw [pivotL_none hfa], Keep.refl _ _⟩
  obtain ⟨_, h', e, rfl, k⟩ := this
  exact ⟨h', e, k⟩

theorem pivotOk (hbig : Big g) (hlf : 1000 < lf) : PivotOk g lf := fun N hN r c k _ _ _ ht hp hl hf => pivot_W g lf hbig hlf N (by omega) r c k ht hp hl hf

theorem matters_W (hbig : Big g) (hlf : 1000 < lf) (N : Nat) (hN : 31 ≤ N) (r c k : Int) {xs : List Int} {p : PV} {h : PHeap} (ht : TabOk g h) (hp : IntSl .i64 h p xs) (hl : xs.length ≤ 2 ^ 35) (hf : xs.length < lf) :
    ∃ h', CL g lf N fn_impl_MattersAt [.int .i64 r, .int .i64 c, p, .int .i64 k] h = some (.bool (mattersL r c xs k), h') ∧ Keep h.length h h' := by
  obtain ⟨n, rfl⟩ : ∃ n, N = n + 1 := ⟨N - 1, by omega⟩
  obtain ⟨h1, e1, k1⟩ := pivot_W g lf hbig hlf n (by omega) r c k ht hp hl hf
  have : W (CL g lf (n + 1) fn_impl_MattersAt [.int .i64 r, .int .i64 c, p, .int .i64 k] h) fun v h' => v = .bool (mattersL r c xs k) ∧ Keep h.length h h' := by
    unfold mattersL
    rw [impl_MattersAt.call_eq]
    unfold impl_MattersAt.main
    simp only [env_C, env_bin]
    by_cases hz : 0 < pivotL r c xs k
    · rw [decide_eq_true hz]
      repeat (first | with_reducible refine wrB ?_ | with_reducible refine wbd (by assumption) ?_ | with_reducible refine wgtrT (by omega) ?_ | dsimp only)
      exact W.ret ⟨rfl, k1⟩
    · rw [decide_eq_false hz]
      repeat (first | with_reducible refine wrB ?_ | with_reducible refine wbd (by assumption) ?_ | with_reducible refine wgtrF (by omega) ?_ | dsimp only)
      exact W.ret ⟨rfl, k1⟩
  obtain ⟨_, h', e, rfl, k⟩ := this
  exact ⟨h', e, k⟩

theorem mattersOk (hbig : Big g) (hlf : 1000 < lf) : MattersOk g lf := fun N hN r c k _ _ _ ht hp hl hf => matters_W g lf hbig hlf N (by omega) r c k ht hp hl hf

/-! ### cells that do not matter -/
theorem sorted_ext : ∀ {a b : List Int}, a.Pairwise (· < ·) → b.Pairwise (· < ·) → (∀ e, e ∈ a ↔ e ∈ b) → a = b
  | [], [], _, _, _ => rfl
  | [], y :: b, _, _, h => by have := (h y).2 (List.mem_cons_self ..); cases this
  | x :: a, [], _, _, h => by have := (h x).1 (List.mem_cons_self ..); cases this
  | x :: a, y :: b, ha, hb, h => by
    rw [List.pairwise_cons] at ha hb
    have hxy : x = y := by
      rcases List.mem_cons.1 ((h x).1 (List.mem_cons_self ..)) with e | e
      · exact e
      · rcases List.mem_cons.1 ((h y).2 (List.mem_cons_self ..)) with e' | e'
        · exact e'.symm
        · have h1 := hb.1 x e
          have h2 := ha.1 y e'
          omega
    subst hxy
    congr 1
    refine sorted_ext ha.2 hb.2 fun e => ⟨fun he => ?_, fun he => ?_⟩
    · rcases List.mem_cons.1 ((h e).1 (List.mem_cons_of_mem _ he)) with rfl | h'
      · exact absurd (ha.1 e he) (by omega)
      · exact h'
    · rcases List.mem_cons.1 ((h e).2 (List.mem_cons_of_mem _ he)) with rfl | h'
      · exact absurd (hb.1 e he) (by omega)
      · exact h'
theorem cellsFrom_has (x : Int) : ∀ (ys : List Int) (i j : Nat), ys[j]? = some x → ((i + j : Nat) : Int) ∈ cellsFrom x i ys
  | [], _, _, h => by simp at h
  | y :: ys, i, 0, h => by
    have : y = x := by simpa using h
    rw [cellsFrom, if_pos this]; exact List.mem_cons_self ..
  | y :: ys, i, j + 1, h => by
    have h' : ys[j]? = some x := by simpa using h
    have := cellsFrom_has x ys (i + 1) j h'
    rw [show i + 1 + j = i + (j + 1) by omega] at this
    rw [cellsFrom]; split
    · exact List.mem_cons_of_mem _ this
    · exact this
theorem dead_filter (r c : Int) (xs : List Int) : (cellsL r c xs 0).filter (fun k => !mattersL r c xs k) = deadL r c xs := by
  cases hb : posB r c xs with
  | false =>
    have h2 : deadL r c xs = [] := by
      unfold deadL
      rw [List.filter_eq_nil_iff.2 fun k _ => by unfold deadB freeAt; rw [hb]; simp]
      rfl
    rw [h2]; unfold cellsL; rw [hb]; rfl
  | true =>
    have hcl : cellsL r c xs 0 = cellsFrom 0 0 xs := by unfold cellsL; rw [hb]; rfl
    rw [hcl]
    refine sorted_ext ((cellsFrom_sorted 0 xs 0).filter _) (deadL_sorted r c xs) fun e => ?_
    rw [List.mem_filter, deadL_mem]
    constructor
    · rintro ⟨h1, h2⟩
      obtain ⟨j, rfl, hj⟩ := cellsFrom_mem 0 xs 0 e h1
      rw [Nat.zero_add] at h2 ⊢
      refine ⟨j, rfl, ?_⟩
      unfold deadB
      rw [freeAt_iff.2 ⟨hb, hj⟩, Bool.true_and]; exact h2
    · rintro ⟨k, rfl, hk⟩
      unfold deadB at hk
      rw [Bool.and_eq_true] at hk
      have := cellsFrom_has 0 xs 0 k (freeAt_iff.1 hk.1).2
      rw [Nat.zero_add] at this
      exact ⟨this, hk.2⟩
theorem deadOk (hbig : Big g) (hlf : 1000 < lf) : DeadOk g lf := by
  intro N hN r c xs p h ht hp hl hf
  obtain ⟨n, rfl⟩ : ∃ n, N = n + 1 := ⟨N - 1, by omega⟩
  suffices this : W (CL g lf (n + 1) fn_impl_DeadCells [.int .i64 r, .int .i64 c, p] h) fun q h' => OwnSl h.length h' q (deadL r c xs) ∧ Keep h.length h h' by
    obtain ⟨q, h', e, o, k⟩ := this
    exact ⟨q, h', e, o, k⟩
  obtain ⟨q1, h1, e1, o1, k1⟩ := cellsOf_calls g lf n (by omega) r c 0 hp hl hf
  have hcl := cellsL_length r c xs 0
  have hdf := dead_filter r c xs
  have hfx : Fix h1.length h1 q1 (cellsL r c xs 0) := o1.int.fix
  have hl1 := o1.int.len'
  rw [impl_DeadCells.call_eq]
  unfold impl_DeadCells.main
  simp only [env_C, env_lf, env_len]
  repeat (first | with_reducible refine wbd (by assumption) ?_ | dsimp only)
  refine loopW (fun m st => ∃ (i : Nat) (ys : List Int) (q : PV) (h3 : PHeap), st = impl_DeadCells.st0 (.int .i64 r) (.int .i64 c) p q (q1) (.int .i64 ((cellsL r c xs 0).length : Int)) (.int .i64 (i : Int)) h3 ∧ i + m = (cellsL r c xs 0).length ∧ ys.length ≤ i ∧ ys ++ ((cellsL r c xs 0).drop i).filter (fun k => !mattersL r c xs k) = deadL r c xs ∧ OwnSl h1.length h3 q ys ∧ Keep h1.length h1 h3) ?_ lf (cellsL r c xs 0).length _ (by omega)
    ⟨0, [], .nilsl, h1, rfl, by omega, Nat.le_refl _, by rw [List.drop_zero]; exact hdf, OwnSl.nil _ _, Keep.refl _ _⟩
  rintro n1 m1 st ⟨i, ys, q, h3, rfl, him, hyi, hys, o3, k3⟩ next
  rw [impl_DeadCells.body0_eq]
  unfold impl_DeadCells.body0
  simp only [env_C, env_buildSlice, env_load, env_bin, env_un, env_indexAddr, env_append]
  by_cases hi : i < (cellsL r c xs 0).length
  · have hdx : (cellsL r c xs 0).drop i = (cellsL r c xs 0)[i] :: (cellsL r c xs 0).drop (i + 1) := List.drop_eq_getElem_cons hi
    obtain ⟨a, ea, la⟩ := (hfx h3 k3).at' hi
    obtain ⟨x, hxe⟩ : ∃ x, x = (cellsL r c xs 0)[i] := ⟨_, rfl⟩
    rw [← hxe] at hdx la
    have K3 := k1.trans (k3.mono k1.1)
    obtain ⟨h4, e4, k4⟩ := matters_W g lf hbig hlf n (by omega) r c x (ht.keep K3) (hp.keep K3) hl hf
    rw [hdx, List.filter_cons] at hys
    cases hm : mattersL r c xs x with
    | true =>
      rw [hm] at e4 hys
      repeat (first | with_reducible refine wT ?_ | with_reducible refine wF ?_ | with_reducible refine wnT ?_ | with_reducible refine wbd (by assumption) ?_ | with_reducible refine wadd1 (by omega) ?_ | with_reducible refine wlssT (by omega) ?_ | dsimp only)
      exact next _ _ (show m1 - 1 < m1 by omega) ⟨i + 1, ys, q, h4, rfl, by omega, by omega, hys, o3.keep k4, k3.trans (k4.mono k3.1)⟩
    | false =>
      rw [hm] at e4 hys
      repeat (first | with_reducible refine wT ?_ | with_reducible refine wnF ?_ | with_reducible refine wbd (by assumption) ?_ | with_reducible refine wlssT (by omega) ?_ | dsimp only)
      refine wap (o3.keep k4) (Nat.le_trans k3.1 k4.1) (by omega) fun q' h5 o5 k5 => ?_
      repeat (first | with_reducible refine wadd1 (by omega) ?_ | dsimp only)
      exact next _ _ (show m1 - 1 < m1 by omega) ⟨i + 1, ys ++ [x], q', h5, rfl, by omega, by rw [List.length_append]; simp only [List.length_cons, List.length_nil]; omega, by rw [List.append_assoc]; exact hys, o5, (k3.trans (k4.mono k3.1)).trans k5⟩
  · rw [List.drop_eq_nil_of_le (by omega), List.filter_nil, List.append_nil] at hys
    repeat (first | with_reducible refine wF ?_ | with_reducible refine wlssF (by omega) ?_ | with_reducible refine wresO (by assumption) ?_ | rw [kLoop_exit] | rw [impl_DeadCells.after0_se0_0_1_2_7_13_14_15_16])
    exact W.ret ⟨(hys ▸ o3).mono k1.1, k1.trans (k3.mono k1.1)⟩

end Go.Proofs.YtfgjbfaapbhppaaDoor

