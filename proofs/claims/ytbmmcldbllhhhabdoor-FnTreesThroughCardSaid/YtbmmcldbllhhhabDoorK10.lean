/- Texts of this seat, in their order, put together by program. -/
import Derived.Test.YtbmmcldbllhhhabDoorK9
set_option linter.unusedSimpArgs false
set_option linter.unusedVariables false
set_option linter.unusedSectionVars false
/- The laws of chapter 10, the rest: how many trees go through a wire. -/
set_option maxRecDepth 20000
namespace Go.Proofs.YtbmmcldbllhhhabDoor
open Go Go.Ip G

theorem twPair : pairT Tryd.prog 34 = true := by kernel_rfl
theorem eqWire (a b a' b' : Int) : binP Tryd.prog .eql 34 (.agg [.int .i64 a, .int .i64 b]) (.agg [.int .i64 a', .int .i64 b']) = some (.bool (a == a' && b == b')) := by
  simp [binP, twPair]
theorem throughN_le {nodes : Nat} {ws : List (Nat × Nat)} {k : Nat} : throughN nodes ws k ≤ 2 ^ ws.length := by
  unfold throughN
  have := List.countP_le_length (p := fun S => treeW ws S (2 ^ nodes - 1) && S.testBit k) (l := List.range (2 ^ ws.length))
  rwa [List.length_range] at this

variable (g : Nat → PV) (lf n : Nat)

set_option maxHeartbeats 2000000 in
theorem fnTreesThrough_calls (hTh : ThroughOk g lf) (hTs : TreesOfOk g lf) {p : PV} {ys : List Int} {h : PHeap} (N : Nat) (hN : 45 ≤ N) (ha : Arg h p ys) (hlf : 3000 < lf) (ht : TabOk g h) :
    ∃ h', CL g lf N fn_laws_FnTreesThrough [p] h = some (.bool true, h') := by
  obtain ⟨n, rfl⟩ : ∃ n, N = n + 1 := ⟨N - 1, by omega⟩
  apply W.yes
  rw [laws_FnTreesThrough.call_eq]
  unfold laws_FnTreesThrough.main
  simp only [env_C, env_lf, env_pick, env_bin, env_extract, env_len]
  have hlenp : lenP Tryd.prog 22 p = some (.int .i64 ys.length) := (ha.1 h (Keep.refl _ _)).len tyB
  by_cases hbig : (1048576 : Int) < (ys.length : Int)
  · repeat (first | with_reducible refine wT ?_ | with_reducible refine wrB ?_ | with_reducible refine wbd (by assumption) ?_ | with_reducible refine wgtrT (by omega) ?_)
    exact W.ret rfl
  have hal : ∀ h2, CL g lf n fn_laws_alive [] h2 = some (.bool true, h2) := fun h2 => alive_calls g lf n (by omega) h2
  obtain ⟨nodes, q, ws, E, h1, e1, k1, hq0, hl, hn1, hn6, hE⟩ := drawTreesThrough_W g lf n (by omega) ha (by omega)
  have htF := tabF ht k1
  have hw : FixW h1.length h1 q ws := hq0.fix
  obtain ⟨h2, e2, k2⟩ := hTh n (by omega) nodes (E : Int) (htF _ (Keep.refl _ _)) hq0 (by omega) (by omega)
  obtain ⟨h3, e3, k3⟩ := specThrough_calls g lf n (by omega) nodes (E : Int) (hw.get k2) (by omega) (by omega) (by omega)
  have K3 : Keep h1.length h1 h3 := k2.trans (k3.mono k2.1)
  by_cases hc : (wiresB nodes ws && decide (0 ≤ (E : Int) ∧ (E : Int) < (ws.length : Int))) = true
  case neg =>
    have hno : throughL nodes ws (E : Int) = -1 := by unfold throughL; rw [if_neg hc]
    rw [hno] at e2 e3
    repeat (first | with_reducible refine wT ?_ | with_reducible refine wF ?_ | with_reducible refine wg1 rfl ?_ | with_reducible refine wpT ?_ | with_reducible refine wrB ?_ | with_reducible refine wx0 ?_ | with_reducible refine wx1 ?_ | with_reducible refine wx2 ?_ | with_reducible refine wbd (by assumption) ?_ | (with_reducible refine wbd (hal _) ?_) | with_reducible refine wlssT (by omega) ?_ | with_reducible refine wgtrF (by omega) ?_ | with_reducible refine weqlT (by omega) ?_ | with_reducible refine wneqF (by omega) ?_ | dsimp only)
    exact W.ret rfl
  have hth : ∀ k : Nat, k < ws.length → throughL nodes ws (k : Int) = (throughN nodes.toNat (natW ws) k : Int) := fun k hk => by
    rw [Bool.and_eq_true] at hc
    unfold throughL; rw [hc.1, decide_eq_true (by omega : 0 ≤ (k : Int) ∧ (k : Int) < (ws.length : Int)), Bool.and_self, if_pos rfl, Int.toNat_natCast]
  rw [Bool.and_eq_true, decide_eq_true_iff] at hc
  obtain ⟨hwb, hEl'⟩ := hc
  have hEl : E < ws.length := by omega
  obtain ⟨M, rfl, hws, hn, hl8, h28, hM2, hM5, hM32, hpw, hpM, hnl⟩ := net_of hwb
  simp only [Int.toNat_natCast] at hth
  have hle : ∀ k, throughN M (natW ws) k ≤ 256 := fun k => by
    have := throughN_le (nodes := M) (ws := natW ws) (k := k)
    rw [hnl] at this; omega
  have hsame := fun i j wi wj (hi : (natW ws)[i]? = some wi) (hj : (natW ws)[j]? = some wj) hs => through_same hn hi hj hs
  have hsum := through_sum hn
  rw [hnl] at hsum
  have htlen : (treesL (M : Int) ws).length = treesN M (natW ws) := by
    unfold treesL castN; rw [if_pos hwb, List.length_map, Int.toNat_natCast, treesF_length]
  have htb := treesL_length (M : Int) ws
  rw [htlen] at htb
  rw [hth E hEl] at e2 e3
  obtain ⟨F, hF⟩ : ∃ F, F = fun k => throughN M (natW ws) k := ⟨_, rfl⟩
  have hF' : ∀ k, throughN M (natW ws) k = F k := fun k => by rw [hF]
  simp only [hF'] at hth hle hsame hsum e2 e3
  obtain ⟨C, hC⟩ : ∃ C, C = treesN M (natW ws) := ⟨_, rfl⟩
  rw [← hC] at hsum htlen htb
  have hEn : E < (natW ws).length := by omega
  have hgE : (natW ws)[E]? = some (natW ws)[E] := List.getElem?_eq_getElem hEn
  have hcw : ∀ (i : Nat) (hi : i < ws.length) (hi' : i < (natW ws).length), ws[i] = ((((natW ws)[i]).1 : Int), (((natW ws)[i]).2 : Int)) := fun i hi hi' => by
    have : ws[i] = (castW (natW ws))[i]'(by rw [castW_length]; exact hi') := by congr 1
    rw [this, castW_get _ hi']
  repeat (first | with_reducible refine wF ?_ | with_reducible refine wx0 ?_ | with_reducible refine wx1 ?_ | with_reducible refine wx2 ?_ | with_reducible refine wbd (by assumption) ?_ | with_reducible refine wlssF (by omega) ?_ | with_reducible refine wgtrF (by omega) ?_ | with_reducible refine wneqF (by omega) ?_ | dsimp only)
  refine loopW (fun m st => ∃ (k c : Nat) (h5 : PHeap), st = laws_FnTreesThrough.st0 (.int .i64 (M : Int)) q (.int .i64 (E : Int)) (.int .i64 (F E : Int)) (.int .i64 (c : Int)) (.int .i64 (k : Int)) h5 ∧ k + m = ws.length ∧ c = sumQ F k ∧ c ≤ 256 * k ∧ Keep h1.length h1 h5) ?_ lf ws.length _ (by omega) ⟨0, 0, h3, rfl, by omega, rfl, by omega, K3⟩
  rintro n1 m st ⟨k, c, h5, rfl, hkm, hc, hcb, K5⟩ next
  have hlw := (hw.get K5).len
  rw [laws_FnTreesThrough.body0_eq]
  unfold laws_FnTreesThrough.body0
  simp only [env_C, env_pick, env_load, env_bin, env_fieldAddr, env_indexAddr, env_len]
  cases m with
  | zero =>
    have hkl : k = ws.length := by omega
    rw [hkl, hsum] at hc
    obtain ⟨q6, h6, e6, o6, k6⟩ := hTs n (by omega) (M : Int) (htF _ K5) (hw.get K5) (by omega) (by omega)
    have hlen6 := o6.int.len'
    rw [htlen] at hlen6
    have hM1 : 1 ≤ M := by omega
    have hmul : C * (M - 1) < 4611686018427387904 := Nat.lt_of_le_of_lt (Nat.mul_le_mul htb (show M - 1 ≤ 4 by omega)) (by decide)
    have hc' : (c : Int) = ((C * (M - 1) : Nat) : Int) := by rw [hc]
    repeat (first | with_reducible refine wF ?_ | with_reducible refine wrB ?_ | with_reducible refine wbd (by assumption) ?_ | (with_reducible refine wsub1 hM1 (by omega) ?_) | (with_reducible refine wmulN hmul ?_) | (with_reducible refine weqlT hc' ?_) | with_reducible refine wlssF (by omega) ?_ | rw [kLoop_exit] | rw [laws_FnTreesThrough.after0_se0_3_4_5_6_7_8_40] | dsimp only | simp only [env_C, env_Y, env_g, env_lf, env_pick, env_alloc, env_box, env_build, env_buildSlice, env_load, env_store, env_ptr, env_bin, env_un, env_conv, env_make, env_slice, env_fieldAddr, env_field, env_indexAddr, env_index, env_extract, env_len, env_append, env_max, env_min, env_makeMap, env_lookup, env_update, env_clos, env_bstr])
    exact W.ret rfl
  | succ m =>
    have hk : k < ws.length := by omega
    have hkn : k < (natW ws).length := by omega
    obtain ⟨h6, e6, k6⟩ := hTh n (by omega) (M : Int) (k : Int) (htF _ K5) (hw.get K5) (by omega) (by omega)
    rw [hth k hk] at e6
    have K6 := K5.trans (k6.mono K5.1)
    have hgk : (natW ws)[k]? = some (natW ws)[k] := List.getElem?_eq_getElem hkn
    obtain ⟨id, off, e0, l0, l1, l2⟩ := (hw.get K6).at hk
    obtain ⟨id', off', e0', l0', l1', l2'⟩ := (hw.get K6).at hEl
    rw [hcw k hk hkn] at l0 l1 l2
    rw [hcw E hEl hEn] at l0' l1' l2'
    have hs := hsame k E _ _ hgk hgE
    obtain ⟨⟨A, B⟩, hAB⟩ : ∃ w, w = (natW ws)[k] := ⟨_, rfl⟩
    obtain ⟨⟨A', B'⟩, hAB'⟩ : ∃ w, w = (natW ws)[E] := ⟨_, rfl⟩
    rw [← hAB] at l0 l1 l2 hs
    rw [← hAB'] at l0' l1' l2' hs
    simp only at l0 l1 l2 l0' l1' l2'
    have hsc : sumQ F (k + 1) = c + F k := by rw [sumQ, hc]
    have hFk := hle k
    have hFE := hle E
    have heq := eqWire (A : Int) (B : Int) (A' : Int) (B' : Int)
    have nx := next m (laws_FnTreesThrough.st0 (.int .i64 (M : Int)) q (.int .i64 (E : Int)) (.int .i64 (F E : Int)) (.int .i64 ((c + F k : Nat) : Int)) (.int .i64 ((k + 1 : Nat) : Int)) h6) (Nat.lt_succ_self m) ⟨k + 1, c + F k, h6, rfl, by omega, hsc.symm, by omega, K6⟩
    obtain ⟨fk, hfk⟩ : ∃ fk, fk = F k := ⟨_, rfl⟩
    obtain ⟨fe, hfe⟩ : ∃ fe, fe = F E := ⟨_, rfl⟩
    rw [← hfk] at e6 hFk hs nx
    rw [← hfe] at hFE hs nx ⊢
    clear next hsame hth hle hsum e2 e3
    by_cases hd : A = A' ∧ B = B'
    · obtain ⟨d1, d2⟩ := hd
      have hb : ((A : Int) == (A' : Int) && (B : Int) == (B' : Int)) = true := by rw [d1, d2]; simp
      rw [hb] at heq
      have hfe' := hs (.inl (by rw [d1, d2]))
      repeat (first | with_reducible refine wT ?_ | with_reducible refine wF ?_ | with_reducible refine wg1 rfl ?_ | with_reducible refine wg0 rfl ?_ | with_reducible refine wgu ?_ | with_reducible refine wpT ?_ | with_reducible refine wpv ?_ | with_reducible refine wsm ?_ | with_reducible refine wbd (by assumption) ?_ | with_reducible refine wadd1 (by omega) ?_ | with_reducible refine waddN (by omega) ?_ | with_reducible refine wlssT (by omega) ?_ | with_reducible refine wneqF (by omega) ?_ | dsimp only)
      exact nx
    · have hb : ((A : Int) == (A' : Int) && (B : Int) == (B' : Int)) = false := by
        rw [Bool.and_eq_false_iff, beq_eq_false_iff_ne, beq_eq_false_iff_ne]
        rcases Classical.em (A = A') with d1 | d1
        · exact .inr (fun e => hd ⟨d1, by omega⟩)
        · exact .inl (fun e => d1 (by omega))
      rw [hb] at heq
      by_cases d1 : A = B'
      · by_cases d2 : B = A'
        · have hfe' := hs (.inr ⟨d1, d2⟩)
          have d1' : (A : Int) = (B' : Int) := by omega
          have d2' : (B : Int) = (A' : Int) := by omega
          repeat (first | with_reducible refine wT ?_ | with_reducible refine wF ?_ | with_reducible refine wg1 rfl ?_ | with_reducible refine wpT ?_ | with_reducible refine wpF ?_ | with_reducible refine wpv ?_ | with_reducible refine wsm ?_ | with_reducible refine wbd (by assumption) ?_ | (with_reducible refine wfa0 ?_) | (with_reducible refine wfa1 ?_) | with_reducible refine wadd1 (by omega) ?_ | with_reducible refine waddN (by omega) ?_ | with_reducible refine wlssT (by omega) ?_ | with_reducible refine weqlT (by omega) ?_ | with_reducible refine wneqF (by omega) ?_ | dsimp only)
          exact nx
        · have d1' : (A : Int) = (B' : Int) := by omega
          have d2' : ¬ (B : Int) = (A' : Int) := by omega
          repeat (first | with_reducible refine wT ?_ | with_reducible refine wF ?_ | with_reducible refine wg1 rfl ?_ | with_reducible refine wg0 rfl ?_ | with_reducible refine wpT ?_ | with_reducible refine wpF ?_ | with_reducible refine wpv ?_ | with_reducible refine wsm ?_ | with_reducible refine wbd (by assumption) ?_ | (with_reducible refine wfa0 ?_) | (with_reducible refine wfa1 ?_) | with_reducible refine wadd1 (by omega) ?_ | with_reducible refine waddN (by omega) ?_ | with_reducible refine wlssT (by omega) ?_ | with_reducible refine weqlT (by omega) ?_ | with_reducible refine weqlF (by omega) ?_ | dsimp only)
          exact nx
      · have d1' : ¬ (A : Int) = (B' : Int) := by omega
        repeat (first | with_reducible refine wT ?_ | with_reducible refine wF ?_ | with_reducible refine wg1 rfl ?_ | with_reducible refine wg0 rfl ?_ | with_reducible refine wpF ?_ | with_reducible refine wpv ?_ | with_reducible refine wsm ?_ | with_reducible refine wbd (by assumption) ?_ | (with_reducible refine wfa0 ?_) | (with_reducible refine wfa1 ?_) | with_reducible refine wadd1 (by omega) ?_ | with_reducible refine waddN (by omega) ?_ | with_reducible refine wlssT (by omega) ?_ | with_reducible refine weqlF (by omega) ?_ | dsimp only)
        exact nx

end Go.Proofs.YtbmmcldbllhhhabDoor

/- The program's chapter 2: Joins, GapOf, GroupOf, Filled and GapCells compute what the model's do. -/
set_option maxRecDepth 20000
namespace Go.Proofs.YtbmmcldbllhhhabDoor
open Go Go.Ip G

variable (g : Nat → PV) (lf n : Nat)

end Go.Proofs.YtbmmcldbllhhhabDoor

/- The least cell of a set, as the library finds it by its table of 64 bytes; and comparing a slice with nil, copying it. -/
set_option maxRecDepth 20000
namespace Go.Proofs.YtbmmcldbllhhhabDoor
open Go Go.Ip G

/-- The least number in a set of nine; nine if there is none. -/
def lowN (x : Nat) : Nat := ((List.range 9).find? fun k => x.testBit k).getD 9
def lsB (x : Nat) : Bool := x.testBit (lowN x) && decide (lowN x < 9) && (List.range (lowN x)).all (fun j => !x.testBit j) && (x &&& (x - 1) == without x (lowN x))
theorem ls_all : ((List.range 512).all fun x => x == 0 || lsB x) = true := by kernel_rfl
theorem low_ok {x : Nat} (hx : x < 2 ^ 9) (h0 : x ≠ 0) : x.testBit (lowN x) = true ∧ lowN x < 9 ∧ (∀ j, j < lowN x → x.testBit j = false) ∧ x &&& (x - 1) = without x (lowN x) := by
  have h := List.all_eq_true.1 ls_all x (List.mem_range.2 hx)
  have h1 : lsB x = true := by
    rcases Bool.or_eq_true_iff.1 h with h | h
    · exact absurd (by simpa using h) h0
    · exact h
  unfold lsB at h1
  simp only [Bool.and_eq_true, decide_eq_true_eq, beq_iff_eq] at h1
  obtain ⟨⟨⟨a, b⟩, c⟩, d⟩ := h1
  exact ⟨a, b, fun j hj => by have := List.all_eq_true.1 c j (List.mem_range.2 hj); simpa using this, d⟩

/-- What the library computes, step by step. -/
def isU (o : Option PV) (a : Nat) : Bool := match o with | some (.int .u64 (.ofNat b)) => b == a | _ => false
theorem isU_eq {o : Option PV} {a : Nat} (h : isU o a = true) : o = some (.int .u64 (a : Int)) := by
  unfold isU at h
  split at h
  · have := beq_iff_eq.1 h; subst this; rfl
  · cases h
def tz5 (x : Nat) : Nat := ((1 <<< lowN x) * 285870213051353865) % 2 ^ 64
def tz6 (x : Nat) : Nat := tz5 x / 2 ^ 58
noncomputable def tzB (x : Nat) : Bool := isU (unP .neg (.int .u64 (x : Int))) (2 ^ 64 - x) && (isU (binP Tryd.prog .and 73 (.int .u64 (x : Int)) (.int .u64 ((2 ^ 64 - x : Nat) : Int))) (1 <<< lowN x) &&
  (isU (binP Tryd.prog .mul 73 (.int .u64 ((1 <<< lowN x : Nat) : Int)) (.int .u64 285870213051353865)) (tz5 x) && (isU (binP Tryd.prog .shr 73 (.int .u64 (tz5 x : Int)) (.int .u64 58)) (tz6 x) && tab64N[tz6 x]? == some (lowN x))))
theorem tz_all : ((List.range 512).all fun x => x == 0 || tzB x) = true := by kernel_rfl
theorem tz_one {x : Nat} (hx : x < 2 ^ 9) (h0 : x ≠ 0) : tzB x = true := by
  have h := List.all_eq_true.1 tz_all x (List.mem_range.2 hx)
  rcases Bool.or_eq_true_iff.1 h with h | h
  · exact absurd (beq_iff_eq.1 h) h0
  · exact h
theorem tz_steps {x : Nat} (hx : x < 2 ^ 9) (h0 : x ≠ 0) : ∃ v3 v4 v5, ∃ i : Nat, unP .neg (.int .u64 (x : Int)) = some v3 ∧ binP Tryd.prog .and 73 (.int .u64 (x : Int)) v3 = some v4 ∧ binP Tryd.prog .mul 73 v4 (.int .u64 285870213051353865) = some v5 ∧
    binP Tryd.prog .shr 73 v5 (.int .u64 58) = some (.int .u64 (i : Int)) ∧ tab64N[i]? = some (lowN x) := by
  have h1 := tz_one hx h0
  unfold tzB at h1
  obtain ⟨a, h1⟩ := Bool.and_eq_true_iff.1 h1
  obtain ⟨b, h1⟩ := Bool.and_eq_true_iff.1 h1
  obtain ⟨c, h1⟩ := Bool.and_eq_true_iff.1 h1
  obtain ⟨d, h1⟩ := Bool.and_eq_true_iff.1 h1
  exact ⟨_, _, _, _, isU_eq a, isU_eq b, isU_eq c, isU_eq d, beq_iff_eq.1 h1⟩

theorem tyTzU : Tryd.prog.underlying 75 = some (.array 64 5) := by kernel_rfl
theorem tyTz1 : sizeT Tryd.prog 5 = some 1 := by kernel_rfl
theorem tyTzA : isAggT Tryd.prog 5 = some false := by kernel_rfl
theorem tzConv (l : Nat) (hl : l < 9) : convP Tryd.prog 5 3 (.int .u8 (l : Int)) = some (.int .i64 (l : Int)) := by
  have : convP Tryd.prog 5 3 (.int .u8 (l : Int)) = some (.int .i64 (IntKind.i64.wrap (l : Int))) := by kernel_rfl
  rw [this, wr (by omega)]
theorem tzConv2 (x : Nat) (hx : x < 2 ^ 9) : convP Tryd.prog 3 69 (.int .i64 (x : Int)) = some (.int .u64 (x : Int)) := by
  have : convP Tryd.prog 3 69 (.int .i64 (x : Int)) = some (.int .u64 (IntKind.u64.wrap (x : Int))) := by kernel_rfl
  rw [this]
  have : IntKind.u64.wrap (x : Int) = (x : Int) := by unfold IntKind.wrap; simp [IntKind.bits, IntKind.signed]; omega
  rw [this]

variable (g : Nat → PV) (lf n : Nat)

/-- The library's table is known to lie somewhere. -/
def Big (g : Nat → PV) : Prop := ∃ id, g 1 = .ptr id 0

theorem tz64_W {x : Nat} (hx : x < 2 ^ 9) (h0 : x ≠ 0) (hb : Big g) {h : PHeap} (ht : Tab64 g h) (N : Nat) (hN : 1 ≤ N) : CL g lf N fn_bits_TrailingZeros64 [.int .u64 (x : Int)] h = some (.int .i64 (lowN x : Int), h) := by
  obtain ⟨n, rfl⟩ : ∃ n, N = n + 1 := ⟨N - 1, by omega⟩
  obtain ⟨id, hg⟩ := hb
  have ho := ht id hg
  obtain ⟨v3, v4, v5, i, e3, e4, e5, e6, hi⟩ := tz_steps hx h0
  have hi64 : i < 64 := (List.getElem?_eq_some_iff.1 hi).1
  have e7 : indexAddrP Tryd.prog 75 (.ptr id 0) (.int .u64 (i : Int)) = some (.ptr id i) := by simp [indexAddrP, tyTzU, tyTz1]; omega
  have e8 : loadP Tryd.prog 5 (.ptr id i) h = some (.int .u8 (lowN x : Int)) := by
    simp [loadP, tyTzA, cellsAt, ho, PObj.get, tab64Cells, hi]
  have e9 := tzConv (lowN x) (low_ok hx h0).2.1
  have : W (CL g lf (n + 1) fn_bits_TrailingZeros64 [.int .u64 (x : Int)] h) fun v h' => v = .int .i64 (lowN x : Int) ∧ h' = h := by
    rw [bits_TrailingZeros64.call_eq]
    unfold bits_TrailingZeros64.main
    simp only [env_g, env_load, env_bin, env_un, env_conv, env_indexAddr]
    refine weqlF (by omega) ?_
    rw [hg]
    repeat (first | with_reducible refine wF ?_ | with_reducible refine wrI ?_ | with_reducible refine wbd (by assumption) ?_)
    exact W.ret ⟨rfl, rfl⟩
  obtain ⟨_, _, e, rfl, rfl⟩ := this
  exact e

theorem leastIn_W {x : Nat} (hx : x < 2 ^ 9) (h0 : x ≠ 0) (hb : Big g) {h : PHeap} (ht : Tab64 g h) (N : Nat) (hN : 3 ≤ N) : CL g lf N fn_impl_leastIn [.int .i64 (x : Int)] h = some (.int .i64 (lowN x : Int), h) := by
  obtain ⟨n, rfl⟩ : ∃ n, N = n + 1 := ⟨N - 1, by omega⟩
  obtain ⟨n, rfl⟩ : ∃ m, n = m + 1 := ⟨n - 1, by omega⟩
  have e1 := tzConv2 x hx
  have e2 := tz64_W g lf hx h0 hb ht n (by omega)
  have e3 : CL g lf (n + 1) fn_bits_TrailingZeros [.int .u64 (x : Int)] h = some (.int .i64 (lowN x : Int), h) := by
    have : W (CL g lf (n + 1) fn_bits_TrailingZeros [.int .u64 (x : Int)] h) fun v h' => v = .int .i64 (lowN x : Int) ∧ h' = h := by
      rw [bits_TrailingZeros.call_eq]
      unfold bits_TrailingZeros.main
      simp only [env_C, env_conv]
      repeat (first | with_reducible refine wF ?_ | with_reducible refine wrI ?_ | with_reducible refine wbd (by assumption) ?_ | dsimp only)
      exact W.ret ⟨rfl, rfl⟩
    obtain ⟨_, _, e, rfl, rfl⟩ := this
    exact e
  have : W (CL g lf (n + 1 + 1) fn_impl_leastIn [.int .i64 (x : Int)] h) fun v h' => v = .int .i64 (lowN x : Int) ∧ h' = h := by
    rw [impl_leastIn.call_eq]
    unfold impl_leastIn.main
    simp only [env_C, env_conv]
    repeat (first | with_reducible refine wrI ?_ | with_reducible refine wbd (by assumption) ?_ | dsimp only)
    exact W.ret ⟨rfl, rfl⟩
  obtain ⟨_, _, e, rfl, rfl⟩ := this
  exact e

/-- What a set loses with its least cell. -/
theorem f_drop {x : Nat} (hx : x < 2 ^ 9) (h0 : x ≠ 0) : binP Tryd.prog .sub 3 (.int .i64 (x : Int)) (.int .i64 1) = some (.int .i64 ((x - 1 : Nat) : Int)) ∧ binP Tryd.prog .and 3 (.int .i64 (x : Int)) (.int .i64 ((x - 1 : Nat) : Int)) = some (.int .i64 (without x (lowN x) : Int)) := by
  refine ⟨by rw [bin_sub, wr (by omega), show (x : Int) - 1 = ((x - 1 : Nat) : Int) by omega], ?_⟩
  rw [f_and (by omega) (by omega), (low_ok hx h0).2.2.2]
theorem without_lt9 {x k : Nat} (hx : x < 2 ^ 9) : without x k < 2 ^ 9 := by rw [← minusN_one]; exact minusN_lt hx
theorem without_less {x : Nat} (hx : x < 2 ^ 9) (h0 : x ≠ 0) : without x (lowN x) < x := by
  have h := (low_ok hx h0).2.2.2
  rw [← h]
  have : x &&& (x - 1) ≤ x - 1 := Nat.and_le_right
  omega

/-! ### slices.Clone -/
end Go.Proofs.YtbmmcldbllhhhabDoor

/- The program's search: structs and a map on the interpreter's heap; the sets' joining; what stands after a move. -/
set_option maxRecDepth 20000
namespace Go.Proofs.YtbmmcldbllhhhabDoor
open Go Go.Ip G

/-! ### objects by themselves, and what keeps all but one -/
def At (h : PHeap) (id : Nat) (l : List PV) : Prop := h[id]? = some (.own 1 l)
theorem At.lt {h : PHeap} {id : Nat} {l : List PV} (a : At h id l) : id < h.length := (List.getElem?_eq_some_iff.1 a).1
/-- All is as it was but the object m, and what is behind. -/
def KB (m : Nat) (h h' : PHeap) : Prop := h.length ≤ h'.length ∧ ∀ i, i < h.length → i ≠ m → h'[i]? = h[i]?
theorem KB.refl (m : Nat) (h : PHeap) : KB m h h := ⟨Nat.le_refl _, fun _ _ _ => rfl⟩
theorem KB.trans {m : Nat} {a b c : PHeap} (h : KB m a b) (k : KB m b c) : KB m a c := ⟨Nat.le_trans h.1 k.1, fun i hi hn => (k.2 i (Nat.lt_of_lt_of_le hi h.1) hn).trans (h.2 i hi hn)⟩
theorem Keep.kb {m : Nat} {a b : PHeap} (h : Keep a.length a b) : KB m a b := ⟨h.1, fun i hi _ => h.2 i hi⟩
theorem KB.keep {m n : Nat} {a b : PHeap} (h : KB m a b) (hm : n ≤ m) (hn : n ≤ a.length) : Keep n a b := ⟨h.1, fun i hi => h.2 i (Nat.lt_of_lt_of_le hi hn) (by omega)⟩
theorem At.keep {h h' : PHeap} {id : Nat} {l : List PV} (a : At h id l) (k : Keep h.length h h') : At h' id l := by unfold At; rw [k.2 id a.lt]; exact a
theorem At.kb {h h' : PHeap} {id m : Nat} {l : List PV} (a : At h id l) (k : KB m h h') (hn : id ≠ m) : At h' id l := by unfold At; rw [k.2 id a.lt hn]; exact a
def MapAt (h : PHeap) (m : Nat) (es : List (PV × PV)) : Prop := h[m]? = some (.mp es)
theorem MapAt.lt {h : PHeap} {m : Nat} {es : List (PV × PV)} (a : MapAt h m es) : m < h.length := (List.getElem?_eq_some_iff.1 a).1
theorem MapAt.keep {h h' : PHeap} {m : Nat} {es : List (PV × PV)} (a : MapAt h m es) (k : Keep h.length h h') : MapAt h' m es := by unfold MapAt; rw [k.2 m a.lt]; exact a
theorem MapAt.kb {h h' : PHeap} {id m : Nat} {es : List (PV × PV)} (a : MapAt h m es) (k : KB id h h') (hn : m ≠ id) : MapAt h' m es := by unfold MapAt; rw [k.2 m a.lt hn]; exact a
theorem Fix.kb {b m : Nat} {h h' : PHeap} {p : PV} {xs : List Int} (s : Fix b h p xs) (k : KB m h h') (hb : b ≤ m) (hb2 : b ≤ h.length) : Fix b h' p xs := s.keep (k.keep hb hb2)

section
variable {Q : PV → PHeap → Prop} {h : PHeap}
end

/-! ### types -/
theorem st1 {h : PHeap} {id i : Nat} {l : List PV} {x : Int} (a : At h id l) (hi : i < l.length) : storeP Tryd.prog 3 (.ptr id i) (.int .i64 x) h = some (h.set id (.own 1 (l.set i (.int .i64 x)))) := by
  simp [storeP, show h[id]? = some (.own 1 l) from a, PV.cells, tySize, setCells]; omega

/-! ### what stands -/
def stC (f a b t : Nat) : List PV := [.int .i64 (f : Int), .int .i64 (a : Int), .int .i64 (b : Int), .int .i64 (t : Int)]
def stP (f a b t : Nat) : PV := .agg (stC f a b t)
section
variable {Q : PV → PHeap → Prop} {h : PHeap} {id f a b t : Nat}
end

variable (g : Nat → PV) (lf n : Nat)

/-! ### a board's search -/
def nearV (R C j : Nat) : Nat := if j < R * C then wideN R C (1 <<< j) else 0
def srchV (R C : Nat) : List Nat := (List.range 9).map (nearV R C) ++ [0, sideN R C 1 false, sideN R C 2 false, 0, sideN R C 1 true, sideN R C 2 true]
def srchC (R C m : Nat) : List PV := (srchV R C).map (fun x : Nat => .int .i64 (x : Int)) ++ [.mapv m]
end Go.Proofs.YtbmmcldbllhhhabDoor

/- The program's search with its map: who wins what stands, and by which moves. -/
set_option maxRecDepth 20000
namespace Go.Proofs.YtbmmcldbllhhhabDoor
open Go Go.Ip G

/-- What may stand: free cells, stones of both, who is to move. -/
def Stands (R C f a b t : Nat) : Prop := Pos R C a b ∧ f < 2 ^ 9 ∧ (∀ k, f.testBit k = true ↔ k < R * C ∧ (a ||| b).testBit k = false) ∧ (t = 1 ∨ t = 2)
theorem Stands.put {R C f a b t k : Nat} (h : Stands R C f a b t) (hk : f.testBit k = true) : Stands R C (without f k) (putA t k a) (putB t k b) (3 - t) := by
  obtain ⟨h1, h2, h3, h4⟩ := h
  obtain ⟨k1, k2⟩ := (h3 k).1 hk
  refine ⟨h1.put k1 k2, without_lt9 h2, fun j => ?_, by omega⟩
  rw [without_bit, put_bit, Bool.and_eq_true, h3, Bool.or_eq_false_iff]
  simp only [decide_eq_true_eq, decide_eq_false_iff_not]
  exact ⟨fun ⟨⟨a1, a2⟩, a3⟩ => ⟨a1, a2, a3⟩, fun ⟨a1, a2, a3⟩ => ⟨⟨a1, a2⟩, a3⟩⟩

/-- Every entry of the map tells who wins. -/
def Memo (R C : Nat) (es : List (PV × PV)) : Prop := ∀ p ∈ es, ∃ f a b t, Stands R C f a b t ∧ p = (stP f a b t, .int .i64 (winN R C a b t : Int))

/-! ### the keys -/
/-- The search of a board: its tables, and its map, right in every entry. -/
def Sch (R C : Nat) (h : PHeap) (s m : Nat) : Prop := At h s (srchC R C m) ∧ ∃ es, MapAt h m es ∧ Memo R C es
theorem Sch.keep {R C s m : Nat} {h h' : PHeap} (hs : Sch R C h s m) (k : Keep h.length h h') : Sch R C h' s m := by
  obtain ⟨a, es, b, c⟩ := hs; exact ⟨a.keep k, es, b.keep k, c⟩
theorem Sch.lt {R C s m : Nat} {h : PHeap} (hs : Sch R C h s m) : m < h.length := by
  obtain ⟨_, es, b, _⟩ := hs; exact b.lt
theorem Tab64.kb {g : Nat → PV} {R C s m : Nat} {h h' : PHeap} (t : Tab64 g h) (hs : Sch R C h s m) (k : KB m h h') : Tab64 g h' := fun id e => by
  have ho := t id e
  obtain ⟨_, es, b, _⟩ := hs
  rw [k.2 id (List.getElem?_eq_some_iff.1 ho).1 (fun e => by subst e; unfold MapAt at b; rw [ho] at b; cases b)]; exact ho
variable (g : Nat → PV) (lf n : Nat)

end Go.Proofs.YtbmmcldbllhhhabDoor

/- The program's search: made for a board, begun at a position; the moves by which one wins. -/
set_option maxRecDepth 20000
namespace Go.Proofs.YtbmmcldbllhhhabDoor
open Go Go.Ip G

variable (g : Nat → PV) (lf n : Nat)

/-! ### a search is made -/
/-! ### where it begins -/
end Go.Proofs.YtbmmcldbllhhhabDoor

/- All sets of the cells of a set, in ascending order, by a carry that passes over the other cells. No program text. -/
set_option maxRecDepth 20000
namespace Go.Proofs.YtbmmcldbllhhhabDoor
open Go Go.Ip G

/-- All sets of the cells of a list, the first cell the fastest. -/
def partsN : List Nat → List Nat
  | [] => [0]
  | c :: l => (partsN l).flatMap fun x => [x, x ||| (1 <<< c)]
theorem partsN_length : ∀ l : List Nat, (partsN l).length = 2 ^ l.length
  | [] => rfl
  | c :: l => by
    rw [partsN, List.length_cons, Nat.pow_succ, ← partsN_length l]
    generalize partsN l = L
    induction L with
    | nil => rfl
    | cons x L ih => rw [List.flatMap_cons, List.length_append, ih, List.length_cons]; simp only [List.length_cons, List.length_nil]; omega

/-- What is computed: all cells outside of the set and those of p, one more, in the set. -/
def outI (F : Int) : Int := IntKind.i64.wrap ((BitVec.ofInt IntKind.i64.bits (if IntKind.i64.signed then -1 else IntKind.i64.max) ^^^ BitVec.ofInt IntKind.i64.bits F).toNat)
def orI (a b : Int) : Int := IntKind.i64.wrap ((BitVec.ofInt IntKind.i64.bits a ||| BitVec.ofInt IntKind.i64.bits b).toNat)
def andI (a b : Int) : Int := IntKind.i64.wrap ((BitVec.ofInt IntKind.i64.bits a &&& BitVec.ofInt IntKind.i64.bits b).toNat)
def nextI (F p : Int) : Int := andI (IntKind.i64.wrap (orI p (outI F) + 1)) F
def chainB (F : Nat) : Nat → List Nat → Bool
  | p, [] => p == F
  | p, q :: l => p != F && (nextI (F : Int) (p : Int) == (q : Int)) && chainB F q l
def chainsB (F : Nat) : Bool := match partsN (cellsN F) with
  | [] => false
  | p :: l => p == 0 && chainB F 0 l
theorem chains_all : ((List.range 32).all fun a => (List.range 16).all fun b => chainsB (a * 16 + b)) = true := by kernel_rfl
theorem chain_of {F : Nat} (hF : F < 2 ^ 9) : ∃ l, partsN (cellsN F) = 0 :: l ∧ chainB F 0 l = true := by
  have h := List.all_eq_true.1 (List.all_eq_true.1 chains_all (F / 16) (List.mem_range.2 (by omega))) (F % 16) (List.mem_range.2 (Nat.mod_lt _ (by decide)))
  rw [show F / 16 * 16 + F % 16 = F by omega] at h
  unfold chainsB at h
  split at h
  · cases h
  · rename_i p l e
    rw [Bool.and_eq_true, beq_iff_eq] at h
    obtain ⟨rfl, h⟩ := h
    exact ⟨l, e, h⟩
end Go.Proofs.YtbmmcldbllhhhabDoor

/- Lists that are in order by a number: blocks, and what is merged; all sets of the cells of a set by their sizes. No program text. -/
set_option maxRecDepth 20000
namespace Go.Proofs.YtbmmcldbllhhhabDoor
open Go Go.Ip G

section
variable (kf cf : Int → Nat)
/-- In order, none twice. -/
def Srt (l : List Int) : Prop := l.Pairwise fun a b => kf a < kf b
/-- The coarse number tells of the two, the one from before and the one from behind, what the fine one tells. -/
def Cp (a b : Int) : Prop := kf a ≠ kf b ∧ (cf b < cf a ↔ kf b < kf a)
/-- In blocks of so many, each in order. -/
inductive Blk (bs : Nat) : List Int → List Int → Prop
  | last {l s : List Int} : l.length ≤ bs → s.Perm l → Srt kf s → Blk bs l s
  | more {a sa r ys : List Int} : a.length = bs → sa.Perm a → Srt kf sa → Blk bs r ys → Blk bs (a ++ r) (sa ++ ys)
end

section
variable {kf cf : Int → Nat}
theorem Srt.app {a b : List Int} (ha : Srt kf a) (hb : Srt kf b) (h : ∀ x ∈ a, ∀ y ∈ b, kf x < kf y) : Srt kf (a ++ b) := List.pairwise_append.2 ⟨ha, hb, h⟩
theorem Srt.right {a b : List Int} (h : Srt kf (a ++ b)) : Srt kf b := (List.pairwise_append.1 h).2.1
theorem Srt.one (x : Int) : Srt kf [x] := List.pairwise_singleton _ _

theorem Blk.len {bs : Nat} {l s : List Int} (h : Blk kf bs l s) : s.length = l.length := by
  induction h with
  | last _ p _ => exact p.length_eq
  | more _ p _ _ ih => rw [List.length_append, List.length_append, p.length_eq, ih]
/-- The first block. -/
theorem Blk.first {bs : Nat} {l s : List Int} (h : Blk kf bs l s) (hl : bs ≤ l.length) : ∃ a sa r ys, l = a ++ r ∧ s = sa ++ ys ∧ a.length = bs ∧ sa.Perm a ∧ Srt kf sa ∧ Blk kf bs r ys := by
  cases h with
  | last hb p hs => exact ⟨l, s, [], [], (List.append_nil _).symm, (List.append_nil _).symm, by omega, p, hs, .last (Nat.zero_le _) (.refl _) .nil⟩
  | more ha p hs hr => exact ⟨_, _, _, _, rfl, rfl, ha, p, hs, hr⟩

theorem Cp.sub {a b a' b' : List Int} (h : ∀ x ∈ a, ∀ y ∈ b, Cp kf cf x y) (ha : ∀ x ∈ a', x ∈ a) (hb : ∀ x ∈ b', x ∈ b) : ∀ x ∈ a', ∀ y ∈ b', Cp kf cf x y := fun x hx y hy => h x (ha x hx) y (hb y hy)
end

/-! ### lists with a part exchanged -/
section
variable {α : Type}
end

/-! ### all sets of the cells of a set, by their sizes -/
end Go.Proofs.YtbmmcldbllhhhabDoor

/- The library's stable sort: what it is given, compared by a function of the program, comes in order, and none is lost. -/
set_option maxRecDepth 20000
namespace Go.Proofs.YtbmmcldbllhhhabDoor
open Go Go.Ip G

section
variable {Q : PV → PHeap → Prop}
theorem conv_iu (x : Int) : convP Tryd.prog 3 69 (.int .i64 x) = some (.int .u64 (IntKind.u64.wrap x)) := by kernel_rfl
end

variable (g : Nat → PV) (lf : Nat)

/-! ### parts that change places -/
end Go.Proofs.YtbmmcldbllhhhabDoor

/- The library's stable sort: insertion into a block, two blocks merged, and blocks of all sizes. -/
set_option maxRecDepth 20000
namespace Go.Proofs.YtbmmcldbllhhhabDoor
open Go Go.Ip G

section
variable {Q : PV → PHeap → Prop}
end
/-- A function that compares by a number, and changes nothing. -/
def CmpOk (g : Nat → PV) (lf : Nat) (f : FuncId) (ok : Int → Prop) (cf : Int → Nat) : Prop := ∀ N, 5 ≤ N → ∀ a b : Int, ok a → ok b → ∀ h, ∃ c : Int, CL g lf N f [.int .i64 a, .int .i64 b] h = some (.int .i64 c, h) ∧ (c < 0 ↔ cf a < cf b)

section
variable (g : Nat → PV) (lf : Nat) {f : FuncId} {ok : Int → Prop} {kf cf : Int → Nat} (hcmp : CmpOk g lf f ok cf) (hlf : 1000 < lf)
include hcmp hlf

end
end Go.Proofs.YtbmmcldbllhhhabDoor

/- The library's stable sort: two blocks merged. -/
set_option maxRecDepth 20000
namespace Go.Proofs.YtbmmcldbllhhhabDoor
open Go Go.Ip G

section
variable (g : Nat → PV) (lf : Nat) {f : FuncId} {ok : Int → Prop} {kf cf : Int → Nat} (hcmp : CmpOk g lf f ok cf) (hlf : 1000 < lf)
include hcmp hlf

end
end Go.Proofs.YtbmmcldbllhhhabDoor

/- The program's chapter 3: MoveOk, Played, WinnerOf, WinningCells and LinePlayed compute what the model's do. -/
set_option maxRecDepth 20000
namespace Go.Proofs.YtbmmcldbllhhhabDoor
open Go Go.Ip G

variable (g : Nat → PV) (lf n : Nat)

/-! ### moves -/
/-! ### who wins -/
/-! ### a line -/
/-- A list of integers at an object of its own. -/
def SlAt (i : Nat) (h : PHeap) (p : PV) (ys : List Int) : Prop := (p = .nilsl ∧ ys = []) ∨ (p = .sl i 0 ys.length ∧ At h i (ys.map (.int .i64)))
theorem SlAt.keep {i : Nat} {h h' : PHeap} {p : PV} {ys : List Int} (s : SlAt i h p ys) (k : Keep h.length h h') : SlAt i h' p ys := by
  rcases s with s | ⟨a, b⟩
  · exact .inl s
  · exact .inr ⟨a, b.keep k⟩
theorem SlAt.kb {i m : Nat} {h h' : PHeap} {p : PV} {ys : List Int} (s : SlAt i h p ys) (k : KB m h h') (hn : i ≠ m) : SlAt i h' p ys := by
  rcases s with s | ⟨a, b⟩
  · exact .inl s
  · exact .inr ⟨a, b.kb k hn⟩
theorem SlAt.own {i n : Nat} {h : PHeap} {p : PV} {ys : List Int} (s : SlAt i h p ys) (hn : n ≤ i) : OwnSl n h p ys := by
  rcases s with s | ⟨a, b⟩
  · exact .inl s
  · exact .inr ⟨i, hn, a, b⟩
end Go.Proofs.YtbmmcldbllhhhabDoor

/- The laws of chapter 3 over what the program's functions are asked to compute: promises 16, 17, 18 and 21. -/
set_option maxRecDepth 20000
namespace Go.Proofs.YtbmmcldbllhhhabDoor
open Go Go.Ip G

variable (g : Nat → PV) (lf n : Nat)

end Go.Proofs.YtbmmcldbllhhhabDoor

/- The laws of chapter 3 over what the program's functions are asked to compute: promises 18, 19, 20 and 22. -/
set_option maxRecDepth 20000
namespace Go.Proofs.YtbmmcldbllhhhabDoor
open Go Go.Ip G

theorem Fix.get {b : Nat} {h h' : PHeap} {p : PV} {xs : List Int} (s : Fix b h p xs) (k : Keep b h h') : IntSl .i64 h' p xs := s h' k
variable (g : Nat → PV) (lf n : Nat)

end Go.Proofs.YtbmmcldbllhhhabDoor

/- The boards that the model draws for chapters 4 and 5, and the draws. -/
set_option maxRecDepth 20000
namespace Go.Proofs.YtbmmcldbllhhhabDoor
open Go Go.Ip Go.RowKit G

variable (g : Nat → PV) (lf n : Nat)

end Go.Proofs.YtbmmcldbllhhhabDoor

/- The laws of chapter 4 over what the program's functions are asked to compute. -/
set_option maxRecDepth 20000
namespace Go.Proofs.YtbmmcldbllhhhabDoor
open Go Go.Ip G

variable (g : Nat → PV) (lf n : Nat)

/-! ### the exact laws -/
end Go.Proofs.YtbmmcldbllhhhabDoor

/- The laws of chapter 5 over what the program's functions are asked to compute. -/
set_option maxRecDepth 20000
namespace Go.Proofs.YtbmmcldbllhhhabDoor
open Go Go.Ip G

section
variable {R C : Nat} {xs : List Int} (hb : posB (R : Int) (C : Int) xs = true)
include hb
end

variable (g : Nat → PV) (lf n : Nat)

/-! ### the exact laws -/
end Go.Proofs.YtbmmcldbllhhhabDoor

/- The program's chapter 5: all fillings of the free cells one after another, those that are won, those that a stone decides, and the cells that do not matter. -/
set_option maxRecDepth 20000
namespace Go.Proofs.YtbmmcldbllhhhabDoor
open Go Go.Ip G

section
variable {Q : PV → PHeap → Prop} {f : PV → Res} {h : PHeap}
theorem wout {F : Int} (hf : W (f (.int .i64 (outI F))) Q) : W ((unP .xor (.int .i64 F)).bind f) Q := hf
theorem worI {a b : Int} (hf : W (f (.int .i64 (orI a b))) Q) : W ((binP Tryd.prog .or 3 (.int .i64 a) (.int .i64 b)).bind f) Q := wbd (by simp only [binP, binI, if_true, orI]) hf
theorem wandI {a b : Int} (hf : W (f (.int .i64 (andI a b))) Q) : W ((binP Tryd.prog .and 3 (.int .i64 a) (.int .i64 b)).bind f) Q := wbd (by simp only [binP, binI, if_true, andI]) hf
theorem waddW {a b : Int} (hf : W (f (.int .i64 (IntKind.i64.wrap (a + b)))) Q) : W ((binP Tryd.prog .add 3 (.int .i64 a) (.int .i64 b)).bind f) Q := wbd (by rw [bin_add]) hf
/-- A list of one number. -/
theorem wone {F : PV × PHeap → Res} {x : Int} (hf : ∀ p h', OwnSl h.length h' p [x] → Keep h.length h h' → W (F (p, h')) Q) : W ((buildSliceP Tryd.prog 35 1 [(0, .int .i64 x)] h).bind F) Q := by
  have hb : buildSliceP Tryd.prog 35 1 [(0, .int .i64 x)] h = some (.sl h.length 0 1, h ++ [.own 1 [.int .i64 x]]) := by
    simp [buildSliceP, tyElem, tySize, tyZero, repeatCells, fillP, PV.cells, setCells]
  exact wbd hb (hf _ _ (.inr ⟨h.length, Nat.le_refl _, rfl, by simp⟩) (Keep.append _ _ _ (Nat.le_refl _)))
end

theorem cellsN_nine (S : Nat) : (cellsN S).length ≤ 9 := by
  unfold cellsN
  have := List.length_filter_le S.testBit (List.range 9)
  rwa [List.length_range] at this
theorem partsN_most (S : Nat) : (partsN (cellsN S)).length ≤ 512 := by
  rw [partsN_length]
  exact Nat.pow_le_pow_right (by decide) (cellsN_nine S)

variable (g : Nat → PV) (lf n : Nat)

theorem partsOf_W {F : Nat} (hF : F < 2 ^ 9) (N : Nat) (hN : 1 ≤ N) (hlf : 1000 < lf) (h : PHeap) :
    W (CL g lf N fn_impl_partsOf [.int .i64 (F : Int)] h) fun q h' => OwnSl h.length h' q ((partsN (cellsN F)).map fun x : Nat => (x : Int)) ∧ Keep h.length h h' := by
  obtain ⟨n, rfl⟩ : ∃ n, N = n + 1 := ⟨N - 1, by omega⟩
  obtain ⟨l, hl, hc⟩ := chain_of hF
  have hmost := partsN_most F
  have hll : l.length < 512 := by rw [hl, List.length_cons] at hmost; omega
  rw [impl_partsOf.call_eq]
  unfold impl_partsOf.main
  simp only [env_lf, env_buildSlice]
  refine wone fun q1 h1 o1 k1 => ?_
  refine loopW (fun m s => ∃ (p : Nat) (ys l : List Nat) (q : PV) (h2 : PHeap), s = impl_partsOf.st0 (.int .i64 (F : Int)) q (.int .i64 (p : Int)) h2 ∧ m = l.length ∧ ys ++ l = partsN (cellsN F) ∧ chainB F p l = true ∧ OwnSl h.length h2 q (ys.map fun x : Nat => (x : Int)) ∧ Keep h.length h h2) ?_ lf l.length _ (by omega)
    ⟨0, [0], l, q1, h1, rfl, rfl, by rw [hl]; rfl, hc, o1, k1⟩
  rintro n1 m s ⟨p, ys, l, q, h2, rfl, rfl, hys, hc, o2, k2⟩ next
  rw [impl_partsOf.body0_eq]
  unfold impl_partsOf.body0
  simp only [env_buildSlice, env_bin, env_un, env_append]
  cases l with
  | nil =>
    rw [chainB, beq_iff_eq] at hc
    subst hc
    rw [List.append_nil] at hys
    repeat (first | with_reducible refine wF ?_ | with_reducible refine wneqF (by omega) ?_ | with_reducible refine wresO (by assumption) ?_ | rw [kLoop_exit] | rw [impl_partsOf.after0_se0_0_3_4_8])
    exact W.ret ⟨hys ▸ o2, k2⟩
  | cons x l =>
    rw [chainB, Bool.and_eq_true, Bool.and_eq_true, bne_iff_ne, beq_iff_eq] at hc
    obtain ⟨⟨hne, hnx⟩, hc⟩ := hc
    have hyl : ys.length ≤ 512 := by rw [← hys, List.length_append] at hmost; omega
    repeat (first | with_reducible refine wT ?_ | with_reducible refine wneqT (by omega) ?_)
    refine wout ?_
    refine worI ?_
    refine waddW ?_
    refine wandI ?_
    rw [show andI (IntKind.i64.wrap (orI (p : Int) (outI (F : Int)) + 1)) (F : Int) = (x : Int) from hnx]
    refine wap o2 k2.1 (by rw [List.length_map]; omega) fun p' h3 o3 k3 => ?_
    repeat (first | dsimp only)
    exact next _ _ (by rw [List.length_cons]; omega) ⟨x, ys ++ [x], l, p', h3, rfl, rfl, by rw [List.append_assoc]; exact hys, hc, by rw [List.map_append]; exact o3, k2.trans k3⟩

/-! ### fillings that are won -/
/-! ### fillings that a stone decides -/
/-! ### cells that do not matter -/
end Go.Proofs.YtbmmcldbllhhhabDoor

/- The library's stable sort, whole; and all parts of a set by size. -/
set_option maxRecDepth 20000
namespace Go.Proofs.YtbmmcldbllhhhabDoor
open Go Go.Ip G

section
variable (g : Nat → PV) (lf : Nat) {f : FuncId} {ok : Int → Prop} {kf cf : Int → Nat} (hcmp : CmpOk g lf f ok cf) (hlf : 1000 < lf)
include hcmp hlf

end

/-! ### how many cells a set has -/
theorem ones_all (g : Nat → PV) (lf n : Nat) (h : PHeap) : ((List.range 32).map fun a => (List.range 16).map fun b => bits_OnesCount64.main (env g lf n) (.int .u64 ((a * 16 + b : Nat) : Int)) h) = (List.range 32).map fun a => (List.range 16).map fun b => some (PV.int .i64 ((sizeN (a * 16 + b) : Nat) : Int), h) := by kernel_rfl
theorem ones_at (g : Nat → PV) (lf n : Nat) (h : PHeap) {x : Nat} (hx : x < 512) : bits_OnesCount64.main (env g lf n) (.int .u64 (x : Int)) h = some (.int .i64 ((sizeN x : Nat) : Int), h) := by
  have h1 := congrArg (fun l => (l[x / 16]?).bind fun r => r[x % 16]?) (ones_all g lf n h)
  simp only [List.getElem?_map, List.getElem?_range (show x / 16 < 32 by omega), List.getElem?_range (show x % 16 < 16 by omega), Option.map_some, Option.bind_some, Option.some.injEq] at h1
  rw [show x / 16 * 16 + x % 16 = x by omega] at h1
  exact h1
theorem countIn_W (g : Nat → PV) (lf N : Nat) (hN : 3 ≤ N) (h : PHeap) {x : Nat} (hx : x < 512) : CL g lf N fn_impl_countIn [.int .i64 (x : Int)] h = some (.int .i64 ((sizeN x : Nat) : Int), h) := by
  obtain ⟨n, rfl⟩ : ∃ n, N = n + 3 := ⟨N - 3, by omega⟩
  have e64 : CL g lf (n + 1) fn_bits_OnesCount64 [.int .u64 (x : Int)] h = some (.int .i64 ((sizeN x : Nat) : Int), h) := by
    rw [bits_OnesCount64.call_eq]; exact ones_at g lf n h hx
  have e1 : CL g lf (n + 2) fn_bits_OnesCount [.int .u64 (x : Int)] h = some (.int .i64 ((sizeN x : Nat) : Int), h) := by
    rw [bits_OnesCount.call_eq]
    unfold bits_OnesCount.main
    simp only [env_C]
    rw [e64]
    rfl
  rw [impl_countIn.call_eq]
  unfold impl_countIn.main
  simp only [env_C, env_conv]
  rw [conv_iu, show IntKind.u64.wrap (x : Int) = (x : Int) from by show (x : Int) % 18446744073709551616 = (x : Int); omega]
  simp only [Option.bind_some]
  rw [e1]
  rfl

end Go.Proofs.YtbmmcldbllhhhabDoor

/- Nets once more: the fewest free wires that link, all sets of wires in order, and what stands in the game of wires. No program text. -/
set_option maxRecDepth 20000
namespace Go.Proofs.YtbmmcldbllhhhabDoor
open Go Go.Ip G

/-! ### the fewest free wires -/
section
variable {ws : List (Nat × Nat)}
end

/-! ### all sets of wires, in their order -/
theorem allParts_all : ((List.range 9).all fun n => partsN (cellsN (2 ^ n - 1)) == List.range (2 ^ n)) = true := by kernel_rfl
theorem allParts {n : Nat} (h : n ≤ 8) : partsN (cellsN (2 ^ n - 1)) = List.range (2 ^ n) := by
  have := List.all_eq_true.1 allParts_all n (List.mem_range.2 (by omega))
  exact eq_of_beq this

/-! ### what stands -/
def StandsW (n f a b t : Nat) : Prop := gPos n a b ∧ f < 2 ^ 9 ∧ (∀ k, f.testBit k = true ↔ k < n ∧ (a ||| b).testBit k = false) ∧ (t = 1 ∨ t = 2)
theorem StandsW.put {n f a b t k : Nat} (h : StandsW n f a b t) (hk : f.testBit k = true) : StandsW n (without f k) (putA t k a) (putB t k b) (3 - t) := by
  obtain ⟨h1, h2, h3, h4⟩ := h
  obtain ⟨k1, k2⟩ := (h3 k).1 hk
  refine ⟨h1.put k1 k2, without_lt9 h2, fun j => ?_, by omega⟩
  rw [without_bit, put_bit, Bool.and_eq_true, h3, Bool.or_eq_false_iff]
  simp only [decide_eq_true_eq, decide_eq_false_iff_not]
  exact ⟨fun ⟨⟨a1, a2⟩, a3⟩ => ⟨a1, a2, a3⟩, fun ⟨a1, a2, a3⟩ => ⟨⟨a1, a2⟩, a3⟩⟩
theorem StandsW.lt9 {n f a b t : Nat} (h : StandsW n f a b t) (hn : n ≤ 8) : a < 2 ^ 9 ∧ b < 2 ^ 9 :=
  ⟨Nat.lt_of_lt_of_le h.1.1 (Nat.pow_le_pow_right (by decide) (by omega)), Nat.lt_of_lt_of_le h.1.2.1 (Nat.pow_le_pow_right (by decide) (by omega))⟩
end Go.Proofs.YtbmmcldbllhhhabDoor

/- What the program's functions on nets and owners compute: those that ask no table. -/
set_option maxRecDepth 20000
namespace Go.Proofs.YtbmmcldbllhhhabDoor
open Go Go.Ip G

variable (g : Nat → PV) (lf n : Nat)

theorem nodeOk_W (N : Nat) (hN : 1 ≤ N) (h : PHeap) (nodes x : Int) : CL g lf N fn_impl_nodeOk [.int .i64 nodes, .int .i64 x] h = some (.bool (decide (0 ≤ x ∧ x < nodes)), h) := by
  obtain ⟨n, rfl⟩ : ∃ n, N = n + 1 := ⟨N - 1, by omega⟩
  have : W (CL g lf (n + 1) fn_impl_nodeOk [.int .i64 nodes, .int .i64 x] h) fun v h' => v = .bool (decide (0 ≤ x ∧ x < nodes)) ∧ h' = h := by
    rw [impl_nodeOk.call_eq]
    unfold impl_nodeOk.main
    simp only [env_pick, env_bin]
    by_cases c1 : 0 ≤ x
    · by_cases c2 : x < nodes
      · repeat (first | with_reducible refine wg1 rfl ?_ | with_reducible refine wpT ?_ | with_reducible refine wpv ?_ | with_reducible refine wsm ?_ | with_reducible refine wrB ?_ | with_reducible refine wlssT (by omega) ?_ | with_reducible refine wgeqT (by omega) ?_ | dsimp only)
        exact W.ret ⟨by rw [decide_eq_true ⟨c1, c2⟩], rfl⟩
      · repeat (first | with_reducible refine wg1 rfl ?_ | with_reducible refine wpT ?_ | with_reducible refine wpv ?_ | with_reducible refine wsm ?_ | with_reducible refine wrB ?_ | with_reducible refine wlssF (by omega) ?_ | with_reducible refine wgeqT (by omega) ?_ | dsimp only)
        exact W.ret ⟨by rw [decide_eq_false (fun hh => c2 hh.2)], rfl⟩
    · repeat (first | with_reducible refine wg0 rfl ?_ | with_reducible refine wpF ?_ | with_reducible refine wsm ?_ | with_reducible refine wrB ?_ | with_reducible refine wgeqF (by omega) ?_ | dsimp only)
      exact W.ret ⟨by rw [decide_eq_false (fun hh => c1 hh.1)], rfl⟩
  obtain ⟨_, _, e, rfl, rfl⟩ := this
  exact e

theorem wiresOk_W {ws : List (Int × Int)} {p : PV} {h : PHeap} (N : Nat) (hN : 3 ≤ N) (nodes : Int) (hp : WSl h p ws) (hl : ws.length ≤ 2 ^ 35) (hf : ws.length < lf) :
    ∃ h', CL g lf N fn_impl_WiresOk [.int .i64 nodes, p] h = some (.bool (wiresB nodes ws), h') ∧ Keep h.length h h' := by
  obtain ⟨n, rfl⟩ : ∃ n, N = n + 1 := ⟨N - 1, by omega⟩
  have hlen0 := hp.len
  have : W (CL g lf (n + 1) fn_impl_WiresOk [.int .i64 nodes, p] h) fun v h' => v = .bool (wiresB nodes ws) ∧ Keep h.length h h' := by
    rw [impl_WiresOk.call_eq]
    unfold impl_WiresOk.main
    simp only [env_lf, env_pick, env_bin, env_len]
    by_cases n1 : nodes < 2
    · repeat (first | with_reducible refine wT ?_ | with_reducible refine wg0 rfl ?_ | with_reducible refine wpT ?_ | with_reducible refine wsm ?_ | with_reducible refine wrB ?_ | with_reducible refine wlssT (by omega) ?_ | dsimp only)
      exact W.ret ⟨by unfold wiresB; rw [decide_eq_false (show ¬ (2 ≤ nodes ∧ nodes ≤ 5) by omega), Bool.false_and, Bool.and_false], Keep.refl _ _⟩
    by_cases n2 : 5 < nodes
    · repeat (first | with_reducible refine wT ?_ | with_reducible refine wg1 rfl ?_ | with_reducible refine wg0 rfl ?_ | with_reducible refine wpT ?_ | with_reducible refine wpF ?_ | with_reducible refine wpv ?_ | with_reducible refine wsm ?_ | with_reducible refine wrB ?_ | with_reducible refine wlssF (by omega) ?_ | with_reducible refine wgtrT (by omega) ?_ | dsimp only)
      exact W.ret ⟨by unfold wiresB; rw [decide_eq_false (show ¬ (2 ≤ nodes ∧ nodes ≤ 5) by omega), Bool.false_and, Bool.and_false], Keep.refl _ _⟩
    by_cases n3 : 8 < ws.length
    · repeat (first | with_reducible refine wT ?_ | with_reducible refine wg1 rfl ?_ | with_reducible refine wpF ?_ | with_reducible refine wpv ?_ | with_reducible refine wsm ?_ | with_reducible refine wrB ?_ | with_reducible refine wbd (by assumption) ?_ | with_reducible refine wlssF (by omega) ?_ | with_reducible refine wgtrT (by omega) ?_ | with_reducible refine wgtrF (by omega) ?_ | dsimp only)
      exact W.ret ⟨by unfold wiresB; rw [decide_eq_false (show ¬ ws.length ≤ 8 by omega), Bool.and_false, Bool.and_false], Keep.refl _ _⟩
    repeat (first | with_reducible refine wF ?_ | with_reducible refine wg1 rfl ?_ | with_reducible refine wpF ?_ | with_reducible refine wpv ?_ | with_reducible refine wsm ?_ | with_reducible refine wbd (by assumption) ?_ | with_reducible refine wlssF (by omega) ?_ | with_reducible refine wgtrF (by omega) ?_ | dsimp only)
    refine loopW (fun m s => ∃ (k : Nat) (h1 : PHeap), s = impl_WiresOk.st0 (.int .i64 nodes) p (.int .i64 (ws.length : Int)) (.int .i64 (k : Int)) h1 ∧ k + m = ws.length ∧ (ws.all (goodW nodes) = (ws.drop k).all (goodW nodes)) ∧ Keep h.length h h1) ?_ lf ws.length _ hf ⟨0, h, rfl, by omega, rfl, Keep.refl _ _⟩
    rintro n1' m s ⟨k, h1, rfl, hkm, hall, k1⟩ next
    have hp1 := hp.keep k1
    rw [impl_WiresOk.body0_eq]
    unfold impl_WiresOk.body0
    simp only [env_C, env_pick, env_alloc, env_load, env_store, env_bin, env_un, env_fieldAddr, env_indexAddr]
    cases m with
    | zero =>
      rw [List.drop_eq_nil_of_le (by omega), List.all_nil] at hall
      repeat (first | with_reducible refine wF ?_ | with_reducible refine wrB ?_ | with_reducible refine wlssF (by omega) ?_ | rw [kLoop_exit] | rw [impl_WiresOk.after0_se0_0_18_19_20_21])
      exact W.ret ⟨by unfold wiresB; rw [hall, decide_eq_true (show 2 ≤ nodes ∧ nodes ≤ 5 by omega), decide_eq_true (show ws.length ≤ 8 by omega)]; rfl, k1⟩
    | succ m =>
      have hk : k < ws.length := by omega
      have hdx : ws.drop k = ws[k] :: ws.drop (k + 1) := List.drop_eq_getElem_cons hk
      obtain ⟨id, off, e0, l0, _, _⟩ := hp1.at hk
      obtain ⟨⟨A, B⟩, hw⟩ : ∃ w, w = ws[k] := ⟨_, rfl⟩
      rw [← hw] at l0 hdx
      rw [hdx, List.all_cons] at hall
      repeat (first | with_reducible refine wT ?_ | with_reducible refine wbd (by assumption) ?_ | (refine walW fun h2 i2 a2 k2 ii2 => ?_) | (refine wstW a2 ii2 fun h3 a3 k3 hl3 => ?_) | with_reducible refine wlssT (by omega) ?_ | dsimp only)
      have l3 := a3.l0
      have l4 := a3.l1
      have K3 : Keep h.length h h3 := k1.trans ((k2.trans k3).mono k1.1)
      have e1 := nodeOk_W g lf n (by omega) h3 nodes A
      have e2 := nodeOk_W g lf n (by omega) h3 nodes B
      by_cases c5 : A = B
      · rw [show goodW nodes (A, B) = false from decide_eq_false (fun hh => hh.2.2.2.2 c5), Bool.false_and] at hall
        repeat (first | with_reducible refine wT ?_ | with_reducible refine wg0 rfl ?_ | with_reducible refine wpT ?_ | with_reducible refine wsm ?_ | with_reducible refine wrB ?_ | with_reducible refine wbd (by assumption) ?_ | (with_reducible refine wfa0 ?_) | (with_reducible refine wfa1 ?_) | with_reducible refine weqlT (by omega) ?_ | rw [kLoop_ret] | rw [impl_WiresOk.K0_ret] | rw [impl_WiresOk.top_sr_4] | dsimp only)
        exact W.ret ⟨by unfold wiresB; rw [hall]; rfl, K3⟩
      · cases d1 : decide (0 ≤ A ∧ A < nodes) with
        | false =>
          rw [d1] at e1
          have d1 := of_decide_eq_false d1
          rw [show goodW nodes (A, B) = false from decide_eq_false (fun hh => d1 ⟨hh.1, hh.2.1⟩), Bool.false_and] at hall
          repeat (first | with_reducible refine wT ?_ | with_reducible refine wg1 rfl ?_ | with_reducible refine wg0 rfl ?_ | with_reducible refine wpT ?_ | with_reducible refine wpF ?_ | with_reducible refine wnF ?_ | with_reducible refine wpv ?_ | with_reducible refine wsm ?_ | with_reducible refine wrB ?_ | with_reducible refine wbd (by assumption) ?_ | (with_reducible refine wfa0 ?_) | (with_reducible refine wfa1 ?_) | with_reducible refine weqlF (by omega) ?_ | rw [kLoop_ret] | rw [impl_WiresOk.K0_ret] | rw [impl_WiresOk.top_sr_4] | dsimp only)
          exact W.ret ⟨by unfold wiresB; rw [hall]; rfl, K3⟩
        | true =>
          rw [d1] at e1
          have d1 := of_decide_eq_true d1
          cases d2 : decide (0 ≤ B ∧ B < nodes) with
          | false =>
            rw [d2] at e2
            have d2 := of_decide_eq_false d2
            rw [show goodW nodes (A, B) = false from decide_eq_false (fun hh => d2 ⟨hh.2.2.1, hh.2.2.2.1⟩), Bool.false_and] at hall
            repeat (first | with_reducible refine wT ?_ | with_reducible refine wg1 rfl ?_ | with_reducible refine wpF ?_ | with_reducible refine wnT ?_ | with_reducible refine wnF ?_ | with_reducible refine wpv ?_ | with_reducible refine wsm ?_ | with_reducible refine wrB ?_ | with_reducible refine wbd (by assumption) ?_ | (with_reducible refine wfa0 ?_) | (with_reducible refine wfa1 ?_) | with_reducible refine weqlF (by omega) ?_ | rw [kLoop_ret] | rw [impl_WiresOk.K0_ret] | rw [impl_WiresOk.top_sr_4] | dsimp only)
            exact W.ret ⟨by unfold wiresB; rw [hall]; rfl, K3⟩
          | true =>
            rw [d2] at e2
            have d2 := of_decide_eq_true d2
            have hg : goodW nodes (A, B) = true := decide_eq_true ⟨d1.1, d1.2, d2.1, d2.2, c5⟩
            repeat (first | with_reducible refine wF ?_ | with_reducible refine wg1 rfl ?_ | with_reducible refine wpF ?_ | with_reducible refine wnT ?_ | with_reducible refine wpv ?_ | with_reducible refine wsm ?_ | with_reducible refine wbd (by assumption) ?_ | (with_reducible refine wfa0 ?_) | (with_reducible refine wfa1 ?_) | with_reducible refine wadd1 (by omega) ?_ | with_reducible refine weqlF (by omega) ?_ | dsimp only)
            exact next _ _ (Nat.lt_succ_self m) ⟨k + 1, h3, rfl, by omega, by rw [hall, hg, Bool.true_and], K3⟩
  obtain ⟨_, h', e, rfl, k⟩ := this
  exact ⟨h', e, k⟩

end Go.Proofs.YtbmmcldbllhhhabDoor

/- The program's nets: what is come to by wires, who has won, and the game with its map. -/
set_option maxRecDepth 20000
namespace Go.Proofs.YtbmmcldbllhhhabDoor
open Go Go.Ip G

theorem TabT.t64 {g : Nat → PV} {h : PHeap} (t : TabT g h) : Tab64 g h := t
theorem TabOk.t64 {g : Nat → PV} {h : PHeap} (t : TabOk g h) : Tab64 g h := TabT.t64 t

theorem WSl.one {h : PHeap} {p : PV} {ws : List (Int × Int)} (s : WSl h p ws) : p.oneCell = true := by
  rcases s with ⟨rfl, _⟩ | ⟨id, off, rfl, _⟩ <;> rfl
theorem FixW.kb {b m : Nat} {h h' : PHeap} {p : PV} {ws : List (Int × Int)} (s : FixW b h p ws) (k : KB m h h') (hb : b ≤ m) (hm : m < h.length) : FixW b h' p ws := s.keep (k.keep hb (by omega))

variable (g : Nat → PV) (lf n : Nat)

/-! ### what is come to -/
theorem ends_meet {A B X : Nat} : ((1 <<< A ||| 1 <<< B) &&& X ≠ 0) ↔ (X.testBit A = true ∨ X.testBit B = true) := by
  constructor
  · intro h
    obtain ⟨j, hj⟩ := bit_of_ne h
    rw [Nat.testBit_and, Nat.testBit_or, one_bit, one_bit, Bool.and_eq_true, Bool.or_eq_true, decide_eq_true_eq, decide_eq_true_eq] at hj
    rcases hj with ⟨rfl | rfl, h2⟩
    · exact .inl h2
    · exact .inr h2
  · intro h e
    rcases h with h | h
    · have : ((1 <<< A ||| 1 <<< B) &&& X).testBit A = true := by rw [Nat.testBit_and, Nat.testBit_or, one_bit, h]; simp
      rw [e, Nat.zero_testBit] at this; cases this
    · have : ((1 <<< A ||| 1 <<< B) &&& X).testBit B = true := by rw [Nat.testBit_and, Nat.testBit_or, one_bit, one_bit, h]; simp
      rw [e, Nat.zero_testBit] at this; cases this
theorem pow58 {x m : Nat} (h : x < 2 ^ m) (hm : m ≤ 8) : x < 2 ^ 9 := Nat.lt_of_lt_of_le h (Nat.pow_le_pow_right (by decide) (by omega))

theorem beside_W {nodes : Nat} {vs : List (Nat × Nat)} (hn : NetN nodes vs) {p : PV} {h : PHeap} (hp : WSl h p (castW vs)) {S X : Nat} (hS : S < 2 ^ vs.length) (hX : X < 2 ^ 5) (hbig : Big g) (ht : Tab64 g h) (hlf : 1000 < lf) (N : Nat) (hN : 4 ≤ N) :
    W (CL g lf N fn_impl_nodesBeside [p, .int .i64 (S : Int), .int .i64 (X : Int)] h) fun v h' => ∃ B : Nat, v = .int .i64 (B : Int) ∧ B < 2 ^ 5 ∧
      (∀ j, B.testBit j = true ↔ ∃ k w, S.testBit k = true ∧ vs[k]? = some w ∧ (X.testBit w.1 = true ∨ X.testBit w.2 = true) ∧ (j = w.1 ∨ j = w.2)) ∧ Keep h.length h h' := by
  obtain ⟨n, rfl⟩ : ∃ n, N = n + 1 := ⟨N - 1, by omega⟩
  have h8 := hn.2.2.1
  have hS9 := pow58 hS h8
  have hnn := hn.2.1
  rw [impl_nodesBeside.call_eq]
  unfold impl_nodesBeside.main
  simp only [env_lf]
  refine loopW (fun m' st => ∃ (B r : Nat) (h1 : PHeap), st = impl_nodesBeside.st0 p (.int .i64 (X : Int)) (.int .i64 (B : Int)) (.int .i64 (r : Int)) h1 ∧ r < 2 ^ 9 ∧ B < 2 ^ 5 ∧ (∀ j, r.testBit j = true → S.testBit j = true) ∧
    (∀ j, B.testBit j = true ↔ ∃ k w, S.testBit k = true ∧ r.testBit k = false ∧ vs[k]? = some w ∧ (X.testBit w.1 = true ∨ X.testBit w.2 = true) ∧ (j = w.1 ∨ j = w.2)) ∧ Keep h.length h h1 ∧ m' = r) ?_ lf S _ (by omega)
    ⟨0, S, h, rfl, hS9, by decide, fun _ h => h, fun j => ⟨fun hh => (by rw [Nat.zero_testBit] at hh; cases hh), fun ⟨k, w, a, b, _⟩ => (by rw [a] at b; cases b)⟩, Keep.refl _ _, rfl⟩
  rintro n1 m1 st ⟨B, r, h1, rfl, hr, hB, hrS, hBb, k1, hm⟩ next
  rw [impl_nodesBeside.body0_eq]
  unfold impl_nodesBeside.body0
  simp only [env_C, env_alloc, env_load, env_store, env_bin, env_fieldAddr, env_indexAddr]
  by_cases e4 : r = 0
  · subst e4
    repeat (first | with_reducible refine wF ?_ | with_reducible refine wrI ?_ | with_reducible refine wneqF (by omega) ?_ | rw [kLoop_exit] | rw [impl_nodesBeside.after0_se0_0_2_7_8_13])
    refine W.ret ⟨B, rfl, hB, fun j => ?_, k1⟩
    rw [hBb]
    exact ⟨fun ⟨k, w, a, _, c⟩ => ⟨k, w, a, c⟩, fun ⟨k, w, a, c⟩ => ⟨k, w, a, Nat.zero_testBit _, c⟩⟩
  · have ht1 := ht.keep k1
    have el := leastIn_W g lf hr e4 hbig ht1 n (by omega)
    obtain ⟨c1, c2, c3, c4⟩ := low_ok hr e4
    obtain ⟨d1, d2⟩ := f_drop hr e4
    have hlt := without_less hr e4
    have hwl := without_lt9 (k := lowN r) hr
    obtain ⟨k, hk⟩ : ∃ k, k = lowN r := ⟨_, rfl⟩
    rw [← hk] at el c1 c2 d2 hlt hwl
    have hkS := hrS k c1
    have hkl : k < vs.length := bit_small hS hkS
    have hkc : k < (castW vs).length := by rw [castW_length]; exact hkl
    obtain ⟨id, off, e0, l0, _, _⟩ := (hp.keep k1).at hkc
    rw [castW_get hkc hkl] at l0
    dsimp only at l0
    have hgk : vs[k]? = some vs[k] := List.getElem?_eq_getElem hkl
    have hmem := hn.2.2.2 _ (List.mem_of_getElem? hgk)
    obtain ⟨⟨E, F⟩, hw⟩ : ∃ w, w = vs[k] := ⟨_, rfl⟩
    rw [← hw] at l0 hgk hmem
    dsimp only at l0 hmem
    have hE : E < 5 := by omega
    have hF : F < 5 := by omega
    have hE5 : 1 <<< E < 2 ^ 5 := by rw [Nat.one_shiftLeft]; exact Nat.pow_lt_pow_right (by decide) hE
    have hF5 : 1 <<< F < 2 ^ 5 := by rw [Nat.one_shiftLeft]; exact Nat.pow_lt_pow_right (by decide) hF
    have hEF : 1 <<< E ||| 1 <<< F < 2 ^ 5 := Nat.or_lt_two_pow hE5 hF5
    have hmeet := ends_meet (A := E) (B := F) (X := X)
    repeat (first | with_reducible refine wT ?_ | with_reducible refine wbd (by assumption) ?_ | (refine walW fun h2 i2 a2 k2 ii2 => ?_) | (refine wstW a2 ii2 fun h3 a3 k3 hl3 => ?_) | with_reducible refine wneqT (by omega) ?_ | dsimp only)
    have l3 := a3.l0
    have l4 := a3.l1
    have K3 : Keep h.length h h3 := k1.trans ((k2.trans k3).mono k1.1)
    have hrw : ∀ j, (without r k).testBit j = true → S.testBit j = true := fun j hj => by
      rw [without_bit, Bool.and_eq_true] at hj; exact hrS j hj.1
    obtain ⟨Z, hZ⟩ : ∃ Z, Z = 1 <<< E ||| 1 <<< F := ⟨_, rfl⟩
    have hZb : ∀ j, Z.testBit j = true ↔ (j = E ∨ j = F) := fun j => by rw [hZ, Nat.testBit_or, one_bit, one_bit, Bool.or_eq_true, decide_eq_true_eq, decide_eq_true_eq]
    repeat (first | with_reducible refine wbd (by assumption) ?_ | (with_reducible refine wfa0 ?_) | (with_reducible refine wfa1 ?_) | with_reducible refine wshl (by omega) ?_ | with_reducible refine wand (by omega) (by omega) ?_ | with_reducible refine wor (by omega) (by omega) ?_)
    rw [← hZ] at hEF hmeet ⊢
    obtain ⟨Y, hY⟩ : ∃ Y, Y = Z &&& X := ⟨_, rfl⟩
    skip
    rw [← hY] at hmeet ⊢
    refine wneq (fun e5 => ?_) (fun e5 => ?_)
    · have hm5 := hmeet.1 (by omega)
      have hBZ : B ||| Z < 2 ^ 5 := Nat.or_lt_two_pow hB hEF
      repeat (first | with_reducible refine wT ?_ | with_reducible refine wbd (by assumption) ?_ | with_reducible refine wor (by omega) (by omega) ?_)
      refine next _ _ (hm ▸ hlt) ⟨B ||| Z, _, h3, rfl, hwl, hBZ, hrw, fun j => ?_, K3, rfl⟩
      rw [Nat.testBit_or, Bool.or_eq_true, hBb, hZb]
      constructor
      · rintro (⟨i, w, x1, x2, x3⟩ | hj)
        · exact ⟨i, w, x1, by rw [without_bit, x2]; rfl, x3⟩
        · exact ⟨k, (E, F), hkS, by rw [without_bit]; simp, hgk, hm5, hj⟩
      · rintro ⟨i, w, x1, x2, x3, x4, x5⟩
        by_cases hik : i = k
        · subst hik
          rw [hgk] at x3
          cases x3
          exact .inr x5
        · rw [without_bit] at x2
          simp only [ne_eq, hik, not_false_eq_true, decide_true, Bool.and_true] at x2
          exact .inl ⟨i, w, x1, x2, x3, x4, x5⟩
    · have hm5 : ¬ (X.testBit E = true ∨ X.testBit F = true) := fun hh => hmeet.2 hh (by omega)
      repeat (first | with_reducible refine wF ?_ | with_reducible refine wbd (by assumption) ?_)
      refine next _ _ (hm ▸ hlt) ⟨B, _, h3, rfl, hwl, hB, hrw, fun j => ?_, K3, rfl⟩
      rw [hBb]
      constructor
      · rintro ⟨i, w, x1, x2, x3⟩
        exact ⟨i, w, x1, by rw [without_bit, x2]; rfl, x3⟩
      · rintro ⟨i, w, x1, x2, x3, x4, x5⟩
        by_cases hik : i = k
        · subst hik
          rw [hgk] at x3
          cases x3
          exact absurd x4 hm5
        · rw [without_bit] at x2
          simp only [ne_eq, hik, not_false_eq_true, decide_true, Bool.and_true] at x2
          exact ⟨i, w, x1, x2, x3, x4, x5⟩

theorem reached_W {nodes : Nat} {vs : List (Nat × Nat)} (hn : NetN nodes vs) {p : PV} {h : PHeap} (hp : WSl h p (castW vs)) {S : Nat} (hS : S < 2 ^ vs.length) (hbig : Big g) (ht : Tab64 g h) (hlf : 1000 < lf) (N : Nat) (hN : 5 ≤ N) :
    W (CL g lf N fn_impl_nodesReached [p, .int .i64 (S : Int), .int .i64 1] h) fun v h' => v = .int .i64 ((reachW vs S 0 : Nat) : Int) ∧ Keep h.length h h' := by
  obtain ⟨n, rfl⟩ : ∃ n, N = n + 1 := ⟨N - 1, by omega⟩
  have h0 : 0 < nodes := by have := hn.1; omega
  have hc1 : ∀ j, (1 : Nat).testBit j = true → Conn vs S 0 j := fun j hj => by
    have : (1 <<< 0).testBit j = true := hj
    rw [one_bit, decide_eq_true_eq] at this
    rw [this]; exact .refl
  rw [impl_nodesReached.call_eq]
  unfold impl_nodesReached.main
  simp only [env_lf]
  refine loopW (fun m' st => ∃ (X w : Nat) (h1 : PHeap), st = impl_nodesReached.st0 p (.int .i64 (S : Int)) (.int .i64 (X : Int)) (.int .i64 (w : Int)) h1 ∧ X < 2 ^ 5 ∧ (∀ j, w.testBit j = true → X.testBit j = true) ∧ X.testBit 0 = true ∧ (∀ j, X.testBit j = true → Conn vs S 0 j) ∧
    (∀ k u, S.testBit k = true → vs[k]? = some u → (X.testBit u.1 = true → w.testBit u.1 = false → X.testBit u.2 = true) ∧ (X.testBit u.2 = true → w.testBit u.2 = false → X.testBit u.1 = true)) ∧ Keep h.length h h1 ∧ m' = (32 - X) + (if w = 0 then 0 else 1)) ?_ lf 32 _ (by omega)
    ⟨1, 1, h, rfl, by decide, fun _ h => h, by decide, hc1, fun k u _ _ => ⟨fun a b => (by rw [a] at b; cases b), fun a b => (by rw [a] at b; cases b)⟩, Keep.refl _ _, rfl⟩
  rintro n1 m1 st ⟨X, w, h1, rfl, hX, hw, hX0, hXc, hcl, k1, hm⟩ next
  rw [impl_nodesReached.body0_eq]
  unfold impl_nodesReached.body0
  simp only [env_C, env_bin]
  by_cases e : w = 0
  · subst e
    have hXr : X = reachW vs S 0 := by
      apply Nat.eq_of_testBit_eq
      intro j
      rw [Bool.eq_iff_iff, reach_bit hn h0]
      refine ⟨hXc j, fun hc => ?_⟩
      induction hc with
      | refl => exact hX0
      | fwd _ hu hs e ih => subst e; exact (hcl _ _ hs hu).1 ih (Nat.zero_testBit _)
      | bwd _ hu hs e ih => subst e; exact (hcl _ _ hs hu).2 ih (Nat.zero_testBit _)
    repeat (first | with_reducible refine wF ?_ | with_reducible refine wrI ?_ | with_reducible refine wneqF (by omega) ?_ | rw [kLoop_exit] | rw [impl_nodesReached.after0_se0_0_1_2_7_10])
    exact W.ret ⟨by rw [hXr], k1⟩
  · have hw5 : w < 2 ^ 5 := Nat.lt_of_le_of_lt (sub_le hw) hX
    repeat (first | with_reducible refine wT ?_ | with_reducible refine wneqT (by omega) ?_)
    refine wcall (beside_W g lf hn (hp.keep k1) hS hw5 hbig (ht.keep k1) hlf n (by omega)) fun v h2 ⟨B, hv, hB, hBb, k2⟩ => ?_
    subst hv
    have hml : minusN B X < 2 ^ 5 := minusN_lt hB
    repeat (first | with_reducible refine wor (by omega) (by omega) ?_ | with_reducible refine wandNot (by omega) (by omega) ?_ | dsimp only)
    obtain ⟨w', hw'⟩ : ∃ w', w' = minusN B X := ⟨_, rfl⟩
    have hb : ∀ j, w'.testBit j = true ↔ B.testBit j = true ∧ X.testBit j = false := fun j => by
      rw [hw', minusN_bit, Bool.and_eq_true, Bool.not_eq_true']
    rw [← hw'] at hml ⊢
    have hor : X ||| w' < 2 ^ 5 := Nat.or_lt_two_pow hX hml
    have hle : X ≤ X ||| w' := Nat.left_le_or
    have hne : w' ≠ 0 → X ≠ X ||| w' := fun hz he => by
      obtain ⟨j, hj⟩ := bit_of_ne hz
      have h1 := ((hb j).1 hj).2
      rw [he, Nat.testBit_or, hj, Bool.or_true] at h1; cases h1
    have inX : ∀ j, B.testBit j = true → (X ||| w').testBit j = true := fun j hj => by
      rw [Nat.testBit_or]
      cases e2 : X.testBit j with
      | true => rfl
      | false => rw [(hb j).2 ⟨hj, e2⟩]; rfl
    refine next _ _ ?_ ⟨X ||| w', w', h2, rfl, hor, fun j hj => by rw [Nat.testBit_or, hj, Bool.or_true], by rw [Nat.testBit_or, hX0]; rfl, fun j hj => ?_, fun k u hs hu => ?_, k1.trans (k2.mono k1.1), rfl⟩
    · rw [hm, if_neg e]
      by_cases e' : w' = 0
      · rw [if_pos e']; omega
      · rw [if_neg e']; have := hne e'; omega
    · rw [Nat.testBit_or, Bool.or_eq_true] at hj
      rcases hj with hj | hj
      · exact hXc j hj
      · obtain ⟨k, u, x1, x2, x3, x4⟩ := (hBb j).1 ((hb j).1 hj).1
        rcases x3 with x3 | x3
        · have hc := hXc _ (hw _ x3)
          rcases x4 with rfl | rfl
          · exact hc
          · exact .fwd hc x2 x1 rfl
        · have hc := hXc _ (hw _ x3)
          rcases x4 with rfl | rfl
          · exact .bwd hc x2 x1 rfl
          · exact hc
    · constructor
      · intro y1 y2
        rw [Nat.testBit_or, y2, Bool.or_false] at y1
        cases e3 : w.testBit u.1 with
        | true => exact inX _ ((hBb _).2 ⟨k, u, hs, hu, .inl e3, .inr rfl⟩)
        | false => rw [Nat.testBit_or, (hcl k u hs hu).1 y1 e3]; rfl
      · intro y1 y2
        rw [Nat.testBit_or, y2, Bool.or_false] at y1
        cases e3 : w.testBit u.2 with
        | true => exact inX _ ((hBb _).2 ⟨k, u, hs, hu, .inr e3, .inl rfl⟩)
        | false => rw [Nat.testBit_or, (hcl k u hs hu).2 y1 e3]; rfl

/-! ### the game's map -/
/-- Every entry of the map tells who wins. -/
def GMemo (vs : List (Nat × Nat)) (es : List (PV × PV)) : Prop := ∀ p ∈ es, ∃ f a b t, StandsW vs.length f a b t ∧ p = (stP f a b t, .int .i64 (gWin vs.length (linkW vs) (cutW vs) a b t : Int))
/-! ### the pair of wires and map -/
section
variable {Q : PV → PHeap → Prop} {h : PHeap} {id m : Nat} {p : PV}
end

/-- The map of a game, right in every entry. -/
def GSch (vs : List (Nat × Nat)) (h : PHeap) (m : Nat) : Prop := ∃ es, MapAt h m es ∧ GMemo vs es
theorem GSch.keep {vs : List (Nat × Nat)} {m : Nat} {h h' : PHeap} (hs : GSch vs h m) (k : Keep h.length h h') : GSch vs h' m := by
  obtain ⟨es, b, c⟩ := hs; exact ⟨es, b.keep k, c⟩
theorem GSch.lt {vs : List (Nat × Nat)} {m : Nat} {h : PHeap} (hs : GSch vs h m) : m < h.length := by
  obtain ⟨es, b, _⟩ := hs; exact b.lt
end Go.Proofs.YtbmmcldbllhhhabDoor

/- The draws of chapter 6. -/
set_option maxRecDepth 20000
namespace Go.Proofs.YtbmmcldbllhhhabDoor
open Go Go.Ip G

section
variable {Q : PV → PHeap → Prop} {x : Nat} {f : PV → Res}
end

variable (g : Nat → PV) (lf n : Nat)

end Go.Proofs.YtbmmcldbllhhhabDoor

/- The laws of chapter 6 over what the program's functions are asked to compute. -/
set_option maxRecDepth 20000
namespace Go.Proofs.YtbmmcldbllhhhabDoor
open Go Go.Ip G

variable (g : Nat → PV) (lf n : Nat)

/-! ### the exact laws -/
end Go.Proofs.YtbmmcldbllhhhabDoor

/- The program's chapter 6: sets that are enough, the least of them, bridges, and cells that must be taken. -/
set_option maxRecDepth 20000
namespace Go.Proofs.YtbmmcldbllhhhabDoor
open Go Go.Ip G

theorem KB.of {n m : Nat} {h h' : PHeap} (k : Keep n h h') (hn : h.length ≤ n) : KB m h h' := ⟨k.1, fun i hi _ => k.2 i (by omega)⟩

theorem Tab64.at {g : Nat → PV} {id : Nat} {l : List PV} {h h' : PHeap} (t : Tab64 g h) (a : At h id l) (k : KB id h h') : Tab64 g h' := fun i e => by
  have ho := t i e
  rw [k.2 i (List.getElem?_eq_some_iff.1 ho).1 (fun e => by subst e; unfold At at a; rw [ho] at a; cases a)]; exact ho
variable (g : Nat → PV) (lf n : Nat)

/-! ### the least sets -/
/-! ### cells that must be taken -/
/-! ### bridges -/
end Go.Proofs.YtbmmcldbllhhhabDoor

/- What the program's functions of chapter 9 compute. -/
set_option maxRecDepth 20000
namespace Go.Proofs.YtbmmcldbllhhhabDoor
open Go Go.Ip G

theorem whole_set : ((List.range 9).all fun n => match (binP Tryd.prog .shl 3 (.int .i64 1) (.int .i64 (n : Int))).bind fun v => binP Tryd.prog .sub 3 v (.int .i64 1) with | some (.int .i64 (.ofNat b)) => b == 2 ^ n - 1 | _ => false) = true := by kernel_rfl
theorem whole_at {n : Nat} (h : n ≤ 8) : ((binP Tryd.prog .shl 3 (.int .i64 1) (.int .i64 (n : Int))).bind fun v => binP Tryd.prog .sub 3 v (.int .i64 1)) = some (.int .i64 ((2 ^ n - 1 : Nat) : Int)) := by
  have := List.all_eq_true.1 whole_set n (List.mem_range.2 (by omega))
  split at this
  · rename_i b e
    rw [e, eq_of_beq this]; rfl
  · cases this

variable (g : Nat → PV) (lf n : Nat)

theorem allWires_W {ws : List (Int × Int)} {p : PV} {h : PHeap} (hp : WSl h p ws) (h8 : ws.length ≤ 8) (N : Nat) (hN : 1 ≤ N) : CL g lf N fn_impl_allWires [p] h = some (.int .i64 ((2 ^ ws.length - 1 : Nat) : Int), h) := by
  obtain ⟨n, rfl⟩ : ∃ n, N = n + 1 := ⟨N - 1, by omega⟩
  have hw := whole_at h8
  have hlen := hp.len
  rw [impl_allWires.call_eq]
  unfold impl_allWires.main
  simp only [env_len, env_bin]
  rw [hlen]
  simp only [Option.bind_some]
  have key : ∀ (a : Option PV) (f : PV → Option PV) (k : PV → Res) (r : PV), a.bind f = some r → (a.bind fun v => (f v).bind k) = k r := by
    intro a f k r e
    cases a with
    | none => cases e
    | some x => simp only [Option.bind_some] at e ⊢; rw [e]; rfl
  rw [key _ _ _ _ hw]
  rfl

/-! ### wires that win -/
/-! ### least sets -/
/-! ### the gap -/
end Go.Proofs.YtbmmcldbllhhhabDoor

/- What the program's functions of chapter 10 compute. -/
set_option maxRecDepth 20000
namespace Go.Proofs.YtbmmcldbllhhhabDoor
open Go Go.Ip G

/-! ### what holds of trees and of pairs of them -/
theorem treeW_short {nodes : Nat} {vs : List (Nat × Nat)} (hn : NetN nodes vs) {S X : Nat} (hS : S < 2 ^ vs.length) (hX : X < 2 ^ 5) : treeW vs S X = (decide (pop S + 1 = pop X) && decide (reachW vs S 0 = X)) := by
  rw [Bool.eq_iff_iff, tree_iff hn hS hX, Bool.and_eq_true, decide_eq_true_iff, decide_eq_true_iff]
  have hr := fun j => reach_bit hn (set := S) (u := 0) (by have := hn.1; omega) j
  constructor
  · intro h
    refine ⟨h.2.2.1, ?_⟩
    apply Nat.eq_of_testBit_eq
    intro j
    rw [Bool.eq_iff_iff, hr, h.2.2.2]
  · rintro ⟨h1, h2⟩
    refine ⟨hS, hX, h1, fun v => ?_⟩
    rw [← h2]; exact hr v

def treesX (vs : List (Nat × Nat)) (X : Nat) : List Nat := (List.range (2 ^ vs.length)).filter fun S => treeW vs S X
theorem castN_length (L : List Nat) : (castN L).length = L.length := by unfold castN; rw [List.length_map]
theorem castN_get {L : List Nat} {i : Nat} (hi : i < (castN L).length) (hi2 : i < L.length) : (castN L)[i] = (L[i] : Int) := by simp [castN]
variable (g : Nat → PV) (lf n : Nat)

theorem bind2 : ∀ (a : Option PV) (f : PV → Option PV) (k : PV → Res) (r : PV), a.bind f = some r → (a.bind fun v => (f v).bind k) = k r := by
  intro a f k r e
  cases a with
  | none => cases e
  | some x => simp only [Option.bind_some] at e ⊢; rw [e]; rfl
theorem allNodes_W {M : Nat} (hM : M ≤ 8) (N : Nat) (hN : 1 ≤ N) (h : PHeap) : CL g lf N fn_impl_allNodes [.int .i64 (M : Int)] h = some (.int .i64 ((2 ^ M - 1 : Nat) : Int), h) := by
  obtain ⟨n, rfl⟩ : ∃ n, N = n + 1 := ⟨N - 1, by omega⟩
  have hw := whole_at hM
  rw [impl_allNodes.call_eq]
  unfold impl_allNodes.main
  simp only [env_bin]
  rw [bind2 _ _ _ _ hw]
  rfl

theorem wireOk_W {ws : List (Int × Int)} {p : PV} {h : PHeap} (hp : WSl h p ws) (h8 : ws.length ≤ 8) (wire : Int) (N : Nat) (hN : 1 ≤ N) : CL g lf N fn_impl_wireOk [p, .int .i64 wire] h = some (.bool (decide (0 ≤ wire ∧ wire < (ws.length : Int))), h) := by
  obtain ⟨n, rfl⟩ : ∃ n, N = n + 1 := ⟨N - 1, by omega⟩
  have hlen := hp.len
  have : W (CL g lf (n + 1) fn_impl_wireOk [p, .int .i64 wire] h) fun v h' => v = .bool (decide (0 ≤ wire ∧ wire < (ws.length : Int))) ∧ h' = h := by
    obtain ⟨Z, hZ⟩ : ∃ Z, Z = ws.length := ⟨_, rfl⟩
    rw [← hZ] at hlen h8 ⊢
    rw [impl_wireOk.call_eq]
    unfold impl_wireOk.main
    simp only [env_pick, env_bin, env_len]
    by_cases c1 : 0 ≤ wire
    · by_cases c2 : wire < (Z : Int)
      · repeat (first | with_reducible refine wg1 rfl ?_ | with_reducible refine wpT ?_ | with_reducible refine wpv ?_ | with_reducible refine wsm ?_ | with_reducible refine wrB ?_ | with_reducible refine wbd (by assumption) ?_ | with_reducible refine wlssT (by omega) ?_ | with_reducible refine wgeqT (by omega) ?_ | dsimp only)
        exact W.ret ⟨by rw [decide_eq_true ⟨c1, c2⟩], rfl⟩
      · repeat (first | with_reducible refine wg1 rfl ?_ | with_reducible refine wpT ?_ | with_reducible refine wpv ?_ | with_reducible refine wsm ?_ | with_reducible refine wrB ?_ | with_reducible refine wbd (by assumption) ?_ | with_reducible refine wlssF (by omega) ?_ | with_reducible refine wgeqT (by omega) ?_ | dsimp only)
        exact W.ret ⟨by rw [decide_eq_false (fun hh => c2 hh.2)], rfl⟩
    · repeat (first | with_reducible refine wg0 rfl ?_ | with_reducible refine wpF ?_ | with_reducible refine wsm ?_ | with_reducible refine wrB ?_ | with_reducible refine wgeqF (by omega) ?_ | dsimp only)
      exact W.ret ⟨by rw [decide_eq_false (fun hh => c1 hh.1)], rfl⟩
  obtain ⟨_, _, e, rfl, rfl⟩ := this
  exact e

theorem hasWire_W {S k : Nat} (hS : S < 2 ^ 9) (hk : k ≤ 60) (N : Nat) (hN : 1 ≤ N) (h : PHeap) : CL g lf N fn_impl_hasWire [.int .i64 (S : Int), .int .i64 (k : Int)] h = some (.bool (S.testBit k), h) := by
  obtain ⟨n, rfl⟩ : ∃ n, N = n + 1 := ⟨N - 1, by omega⟩
  have hsh : S >>> k < 2 ^ 62 := by have : S >>> k ≤ S := by { rw [Nat.shiftRight_eq_div_pow]; exact Nat.div_le_self _ _ }; omega
  have hb : S >>> k &&& 1 = 1 ↔ S.testBit k = true := by rw [Nat.and_one_is_mod]; exact bit_iff S k
  have : W (CL g lf (n + 1) fn_impl_hasWire [.int .i64 (S : Int), .int .i64 (k : Int)] h) fun v h' => v = .bool (S.testBit k) ∧ h' = h := by
    rw [impl_hasWire.call_eq]
    unfold impl_hasWire.main
    simp only [env_bin]
    repeat (first | with_reducible refine wshr (by omega) ?_)
    refine wbd (f_and (a := S >>> k) (b := 1) hsh (by decide)) ?_
    refine weql (fun e => ?_) (fun e => ?_)
    · have e' : S >>> k &&& 1 = 1 := by simpa using Int.ofNat_inj.1 e
      exact W.ret ⟨by rw [hb.1 e'], rfl⟩
    · have e' : ¬ S >>> k &&& 1 = 1 := fun e2 => e (by rw [e2]; rfl)
      refine W.ret ⟨?_, rfl⟩
      cases hs : S.testBit k with
      | false => rfl
      | true => exact absurd (hb.2 hs) e'
  obtain ⟨_, _, e, rfl, rfl⟩ := this
  exact e

/-! ### a tree -/
theorem treeOn_W {nodes : Nat} {vs : List (Nat × Nat)} (hn : NetN nodes vs) {p : PV} {h : PHeap} (hp : WSl h p (castW vs)) {S X : Nat} (hS : S < 2 ^ vs.length) (hX : X < 2 ^ 5) (hbig : Big g) (ht : Tab64 g h) (hlf : 1000 < lf) (N : Nat) (hN : 6 ≤ N) :
    ∃ h', CL g lf N fn_impl_treeOn [p, .int .i64 (X : Int), .int .i64 (S : Int)] h = some (.bool (treeW vs S X), h') ∧ Keep h.length h h' := by
  obtain ⟨n, rfl⟩ : ∃ n, N = n + 1 := ⟨N - 1, by omega⟩
  have hS9 := pow58 hS hn.2.2.1
  have e1 := countIn_W g lf n (by omega) h (x := S) hS9
  have e2 := countIn_W g lf n (by omega) h (x := X) (by omega)
  have pA := pop_le (n := 9) (by decide) hS9
  have pB := pop_le (n := 9) (x := X) (by decide) (by omega)
  rw [size_pop] at e1 e2
  have : W (CL g lf (n + 1) fn_impl_treeOn [p, .int .i64 (X : Int), .int .i64 (S : Int)] h) fun v h' => v = .bool (treeW vs S X) ∧ Keep h.length h h' := by
    rw [treeW_short hn hS hX]
    obtain ⟨A, hA⟩ : ∃ A, A = pop S := ⟨_, rfl⟩
    obtain ⟨B, hB⟩ : ∃ B, B = pop X := ⟨_, rfl⟩
    rw [← hA] at e1 pA ⊢
    rw [← hB] at e2 pB ⊢
    have hsb : -4611686018427387904 ≤ (B : Int) - 1 ∧ (B : Int) - 1 ≤ 4611686018427387904 := by omega
    rw [impl_treeOn.call_eq]
    unfold impl_treeOn.main
    simp only [env_C, env_pick, env_bin]
    by_cases hc : A + 1 = B
    · have hc' : (A : Int) = (B : Int) - 1 := by omega
      rw [decide_eq_true hc, Bool.true_and]
      repeat (first | with_reducible refine wg1 rfl ?_ | with_reducible refine wsm ?_ | with_reducible refine wbd (by assumption) ?_ | (with_reducible refine wsub hsb ?_) | with_reducible refine weqlT (by omega) ?_ | dsimp only)
      refine wcall (reached_W g lf hn hp hS hbig ht hlf n (by omega)) fun v h1 ⟨hv, k1⟩ => ?_
      subst hv
      obtain ⟨Y, hY⟩ : ∃ Y, Y = reachW vs S 0 := ⟨_, rfl⟩
      rw [← hY]
      by_cases hy : Y = X
      · have hy' : (Y : Int) = (X : Int) := by omega
        rw [decide_eq_true hy]
        repeat (first | with_reducible refine wg1 rfl ?_ | with_reducible refine wpT ?_ | with_reducible refine wpv ?_ | with_reducible refine wsm ?_ | with_reducible refine wrB ?_ | with_reducible refine weqlT (by omega) ?_ | dsimp only)
        exact W.ret ⟨rfl, k1⟩
      · have hy' : ¬ (Y : Int) = (X : Int) := by omega
        rw [decide_eq_false hy]
        repeat (first | with_reducible refine wg1 rfl ?_ | with_reducible refine wpT ?_ | with_reducible refine wpv ?_ | with_reducible refine wsm ?_ | with_reducible refine wrB ?_ | with_reducible refine weqlF (by omega) ?_ | dsimp only)
        exact W.ret ⟨rfl, k1⟩
    · have hc' : ¬ (A : Int) = (B : Int) - 1 := by omega
      rw [decide_eq_false hc, Bool.false_and]
      repeat (first | with_reducible refine wg0 rfl ?_ | with_reducible refine wpF ?_ | with_reducible refine wsm ?_ | with_reducible refine wrB ?_ | with_reducible refine wbd (by assumption) ?_ | (with_reducible refine wsub hsb ?_) | with_reducible refine weqlF (by omega) ?_ | dsimp only)
      exact W.ret ⟨rfl, Keep.refl _ _⟩
  obtain ⟨_, h', e, rfl, k⟩ := this
  exact ⟨h', e, k⟩

/-! ### all trees -/
theorem treesOn_W {nodes : Nat} {vs : List (Nat × Nat)} (hn : NetN nodes vs) {p : PV} {h : PHeap} (hp : WSl h p (castW vs)) {X : Nat} (hX : X < 2 ^ 5) (hbig : Big g) (ht : Tab64 g h) (hlf : 1000 < lf) (N : Nat) (hN : 7 ≤ N) :
    W (CL g lf N fn_impl_treesOn [p, .int .i64 (X : Int)] h) fun q h' => OwnSl h.length h' q (castN (treesX vs X)) ∧ Keep h.length h h' := by
  obtain ⟨n, rfl⟩ : ∃ n, N = n + 1 := ⟨N - 1, by omega⟩
  have h8 := hn.2.2.1
  have ea := allWires_W g lf hp (by rw [castW_length]; exact h8) n (by omega)
  rw [castW_length] at ea
  have h28 : 2 ^ vs.length ≤ 2 ^ 8 := Nat.pow_le_pow_right (by decide) h8
  have h20 := Nat.two_pow_pos vs.length
  have hpo := partsOf_W g lf (F := 2 ^ vs.length - 1) (by omega) n (by omega) hlf h
  rw [allParts h8] at hpo
  rw [impl_treesOn.call_eq]
  unfold impl_treesOn.main
  simp only [env_C, env_lf, env_len]
  repeat (first | with_reducible refine wbd (by assumption) ?_ | dsimp only)
  refine wcall hpo fun q1 h1 ⟨o1, k1⟩ => ?_
  have hll : ((List.range (2 ^ vs.length)).map fun x : Nat => (x : Int)).length = 2 ^ vs.length := by simp
  have hfx := o1.int.fix
  obtain ⟨b, hb⟩ : ∃ b, b = h1.length := ⟨_, rfl⟩
  rw [← hb] at hfx
  have lk1 := k1.1
  unfold treesX
  repeat (first | with_reducible refine wlen (OwnSl.int (by assumption)) ?_ | dsimp only)
  refine loopW (fun d st => ∃ (k : Nat) (q : PV) (h2 : PHeap), st = impl_treesOn.st0 p (.int .i64 (X : Int)) q q1 (.int .i64 (((List.range (2 ^ vs.length)).map fun x : Nat => (x : Int)).length : Int)) (.int .i64 (k : Int)) h2 ∧ k + d = 2 ^ vs.length ∧ OwnSl b h2 q (castN ((List.range k).filter fun S => treeW vs S X)) ∧ Keep b h1 h2) ?_ lf (2 ^ vs.length) _ (by omega)
    ⟨0, .nilsl, h1, rfl, by omega, OwnSl.nil _ _, Keep.refl _ _⟩
  rintro n1 d st ⟨k, q, h2, rfl, hkd, o2, k2⟩ next
  have kk2 : Keep h.length h h2 := k1.trans (k2.mono (by omega))
  rw [impl_treesOn.body0_eq]
  unfold impl_treesOn.body0
  simp only [env_C, env_buildSlice, env_load, env_bin, env_indexAddr, env_append]
  cases d with
  | zero =>
    obtain rfl : k = 2 ^ vs.length := by omega
    repeat (first | with_reducible refine wF ?_ | with_reducible refine wlssF (by omega) ?_ | with_reducible refine wresO (by assumption) ?_ | rw [kLoop_exit] | rw [impl_treesOn.after0_se0_0_1_5_10_11_12_13])
    exact W.ret ⟨o2.mono (by omega), kk2⟩
  | succ d =>
    have hk : k < 2 ^ vs.length := by omega
    have hkl : k < ((List.range (2 ^ vs.length)).map fun x : Nat => (x : Int)).length := by omega
    obtain ⟨a, eA, la⟩ := (hfx.get k2).at' hkl
    rw [show ((List.range (2 ^ vs.length)).map fun x : Nat => (x : Int))[k] = (k : Int) by simp] at la
    have htl : (castN ((List.range k).filter fun S => treeW vs S X)).length + 1 ≤ 2 ^ 36 := by
      rw [castN_length]
      have := List.length_filter_le (fun S => treeW vs S X) (List.range k)
      rw [List.length_range] at this
      omega
    have hsu : castN ((List.range (k + 1)).filter fun S => treeW vs S X) = castN ((List.range k).filter fun S => treeW vs S X) ++ (if treeW vs k X = true then [(k : Int)] else []) := by
      unfold castN
      rw [List.range_succ, List.filter_append, List.map_append]
      congr 1
      cases e : treeW vs k X <;> simp [List.filter_cons, e]
    have l2 : b ≤ h2.length := by have := k2.1; omega
    obtain ⟨h3, e3, k3⟩ := treeOn_W g lf hn (hp.keep kk2) hk hX hbig (ht.keep kk2) hlf n (by omega)
    have kk3 := kk2.trans (k3.mono kk2.1)
    have o3 := o2.keep k3
    have b3 : Keep b h1 h3 := k2.trans (k3.mono l2)
    have l3 : b ≤ h3.length := by have := b3.1; omega
    cases htk : treeW vs k X with
    | false =>
      rw [htk] at e3
      rw [htk, if_neg (by decide), List.append_nil] at hsu
      repeat (first | with_reducible refine wT ?_ | with_reducible refine wF ?_ | with_reducible refine wbd (by assumption) ?_ | with_reducible refine wadd1 (by omega) ?_ | with_reducible refine wlssT (by omega) ?_ | dsimp only)
      exact next _ _ (Nat.lt_succ_self d) ⟨k + 1, q, h3, rfl, by omega, by rw [hsu]; exact o3, b3⟩
    | true =>
      rw [htk] at e3
      rw [htk, if_pos rfl] at hsu
      repeat (first | with_reducible refine wT ?_ | with_reducible refine wbd (by assumption) ?_ | with_reducible refine wlssT (by omega) ?_ | dsimp only)
      refine wap o3 l3 htl fun q' h5 o5 k5 => ?_
      repeat (first | with_reducible refine wadd1 (by omega) ?_ | dsimp only)
      exact next _ _ (Nat.lt_succ_self d) ⟨k + 1, q', h5, rfl, by omega, by rw [hsu]; exact o5, b3.trans k5⟩

theorem treesOf_W {ws : List (Int × Int)} {p : PV} {h : PHeap} (hbig : Big g) (hlf : 1000 < lf) (N : Nat) (hN : 9 ≤ N) (nodes : Int) (ht : TabOk g h) (hp : WSl h p ws) (hl : ws.length ≤ 2 ^ 35) (hf : ws.length < lf) :
    ∃ q h', CL g lf N fn_impl_TreesOf [.int .i64 nodes, p] h = some (q, h') ∧ OwnSl h.length h' q (treesL nodes ws) ∧ Keep h.length h h' := by
  obtain ⟨n, rfl⟩ : ∃ n, N = n + 1 := ⟨N - 1, by omega⟩
  obtain ⟨h1, e1, k1⟩ := wiresOk_W g lf n (by omega) nodes hp hl hf
  have hp1 := hp.keep k1
  suffices this : W (CL g lf (n + 1) fn_impl_TreesOf [.int .i64 nodes, p] h) fun q h' => OwnSl h.length h' q (treesL nodes ws) ∧ Keep h.length h h' by
    obtain ⟨q, h', e, o, k⟩ := this
    exact ⟨q, h', e, o, k⟩
  rw [impl_TreesOf.call_eq]
  unfold impl_TreesOf.main
  simp only [env_C, env_un]
  unfold treesL
  cases hb : wiresB nodes ws with
  | false =>
    rw [hb] at e1
    rw [if_neg (by decide)]
    repeat (first | with_reducible refine wT ?_ | with_reducible refine wnF ?_ | with_reducible refine wrN ?_ | with_reducible refine wbd (by assumption) ?_ | dsimp only)
    exact W.ret ⟨OwnSl.nil _ _, k1⟩
  | true =>
    rw [hb] at e1
    obtain ⟨M, rfl, hws, hn, hl8, h28, hM2, hM5, hM32, hpw, hpM, hnl⟩ := net_of hb
    have hM0 := Nat.two_pow_pos M
    rw [if_pos rfl, Int.toNat_natCast]
    have e3 := allNodes_W g lf (M := M) (by omega) n (by omega) h1
    repeat (first | with_reducible refine wF ?_ | with_reducible refine wnT ?_ | with_reducible refine wbd (by assumption) ?_ | dsimp only)
    refine wcall (treesOn_W g lf hn (hws ▸ hp1) (X := 2 ^ M - 1) (by omega) hbig (ht.keep k1).t64 hlf n (by omega)) fun q h2 ⟨o2, k2⟩ => ?_
    dsimp only
    refine wbd o2.res ?_
    exact W.ret ⟨o2.mono k1.1, k1.trans (k2.mono k1.1)⟩
theorem treesOfOk (hbig : Big g) (hlf : 1000 < lf) : TreesOfOk g lf := fun N hN nodes _ _ _ ht hp hl hf => treesOf_W g lf hbig hlf N (by omega) nodes ht hp hl hf

/-! ### pairs -/
/-! ### a wire given back, and how many trees have it -/
theorem throughOk (hbig : Big g) (hlf : 1000 < lf) : ThroughOk g lf := by
  intro N hN nodes wire ws p h ht hp hl hf
  obtain ⟨n, rfl⟩ : ∃ n, N = n + 1 := ⟨N - 1, by omega⟩
  obtain ⟨h1, e1, k1⟩ := wiresOk_W g lf n (by omega) nodes hp hl hf
  have : W (CL g lf (n + 1) fn_impl_TreesThrough [.int .i64 nodes, p, .int .i64 wire] h) fun v h' => v = .int .i64 (throughL nodes ws wire) ∧ Keep h.length h h' := by
    rw [impl_TreesThrough.call_eq]
    unfold impl_TreesThrough.main
    simp only [env_C, env_lf, env_pick, env_un, env_len]
    unfold throughL
    cases hb : wiresB nodes ws with
    | false =>
      rw [hb] at e1
      rw [Bool.false_and, if_neg (by decide)]
      repeat (first | with_reducible refine wT ?_ | with_reducible refine wg0 rfl ?_ | with_reducible refine wpT ?_ | with_reducible refine wnF ?_ | with_reducible refine wsm ?_ | with_reducible refine wrI ?_ | with_reducible refine wbd (by assumption) ?_ | dsimp only)
      exact W.ret ⟨rfl, k1⟩
    | true =>
      rw [hb] at e1
      rw [Bool.true_and]
      obtain ⟨M, rfl, hws, hn, hl8, h28, hM2, hM5, hM32, hpw, hpM, hnl⟩ := net_of hb
      have hp1 := hp.keep k1
      have hin := wireOk_W g lf hp1 hl8 wire n (by omega)
      cases hw : decide (0 ≤ wire ∧ wire < (ws.length : Int)) with
      | false =>
        rw [hw] at hin
        rw [if_neg (by decide)]
        repeat (first | with_reducible refine wT ?_ | with_reducible refine wg1 rfl ?_ | with_reducible refine wpF ?_ | with_reducible refine wnT ?_ | with_reducible refine wnF ?_ | with_reducible refine wpv ?_ | with_reducible refine wsm ?_ | with_reducible refine wrI ?_ | with_reducible refine wbd (by assumption) ?_ | dsimp only)
        exact W.ret ⟨rfl, k1⟩
      | true =>
        rw [hw] at hin
        have hwb := of_decide_eq_true hw
        obtain ⟨E, rfl⟩ := Int.eq_ofNat_of_zero_le hwb.1
        have hE60 : E ≤ 60 := by omega
        rw [if_pos rfl, Int.toNat_natCast, Int.toNat_natCast]
        obtain ⟨q, h2, e2, o2, k2⟩ := treesOf_W g lf hbig hlf n (by omega) (M : Int) (ht.keep k1) hp1 hl hf
        have hTL : treesL (M : Int) ws = castN (treesF M (natW ws)) := by unfold treesL; rw [if_pos hb, Int.toNat_natCast]
        rw [hTL] at o2
        have hTn := treesF_length M (natW ws)
        have hTle := treesN_le (nodes := M) (ws := natW ws)
        rw [hnl] at hTle
        have hTlt : ∀ S ∈ treesF M (natW ws), S < 2 ^ ws.length := fun S hS => by
          unfold treesF at hS
          have := List.mem_range.1 (List.mem_filter.1 hS).1
          rwa [hnl] at this
        rw [← treesF_through]
        obtain ⟨L, hL⟩ : ∃ L, L = treesF M (natW ws) := ⟨_, rfl⟩
        rw [← hL] at o2 hTn hTlt ⊢
        have hLl : (castN L).length = L.length := castN_length L
        have hq := o2.int.len'
        rw [hLl] at hq
        have K2 := k1.trans (k2.mono k1.1)
        repeat (first | with_reducible refine wF ?_ | with_reducible refine wg1 rfl ?_ | with_reducible refine wpF ?_ | with_reducible refine wnT ?_ | with_reducible refine wpv ?_ | with_reducible refine wsm ?_ | with_reducible refine wbd (by assumption) ?_ | dsimp only)
        refine loopW (fun m s => ∃ (k c : Nat), s = impl_TreesThrough.st0 (.int .i64 (E : Int)) (.int .i64 (c : Int)) q (.int .i64 (L.length : Int)) (.int .i64 (k : Int)) h2 ∧ k + m = L.length ∧ c = (L.take k).countP (fun S => S.testBit E) ∧ c ≤ k) ?_ lf L.length _ (by omega) ⟨0, 0, rfl, by omega, rfl, by omega⟩
        rintro n1 m s ⟨k, c, rfl, hkm, hc, hck⟩ next
        rw [impl_TreesThrough.body0_eq]
        unfold impl_TreesThrough.body0
        simp only [env_C, env_load, env_bin, env_indexAddr]
        cases m with
        | zero =>
          have hkl : k = L.length := by omega
          rw [List.take_of_length_le (by omega)] at hc
          rw [← hc]
          repeat (first | with_reducible refine wF ?_ | with_reducible refine wrI ?_ | with_reducible refine wlssF (by omega) ?_ | rw [kLoop_exit] | rw [impl_TreesThrough.after0_se0_2_7_22_23_24_25])
          exact W.ret ⟨rfl, K2⟩
        | succ m =>
          have hk : k < L.length := by omega
          obtain ⟨a, ea, la⟩ := o2.int.at' (i := k) (by rw [hLl]; exact hk)
          rw [castN_get (by rw [hLl]; exact hk) hk] at la
          have hsu : (L.take (k + 1)).countP (fun S => S.testBit E) = c + if L[k].testBit E = true then 1 else 0 := by
            rw [List.take_add_one, List.getElem?_eq_getElem hk, List.countP_append, ← hc]
            simp [List.countP_cons]
          have hSl := hTlt L[k] (List.getElem_mem hk)
          obtain ⟨S, hS⟩ : ∃ S, S = L[k] := ⟨_, rfl⟩
          rw [← hS] at la hsu hSl
          have ehk := hasWire_W g lf (S := S) (k := E) (by omega) hE60 n (by omega) h2
          cases hbe : S.testBit E with
          | true =>
            rw [hbe] at ehk
            rw [hbe, if_pos rfl] at hsu
            repeat (first | with_reducible refine wT ?_ | with_reducible refine wbd (by assumption) ?_ | with_reducible refine wadd1 (by omega) ?_ | with_reducible refine wlssT (by omega) ?_ | dsimp only)
            exact next _ _ (Nat.lt_succ_self m) ⟨k + 1, c + 1, rfl, by omega, hsu.symm, by omega⟩
          | false =>
            rw [hbe] at ehk
            rw [hbe, if_neg (by decide)] at hsu
            repeat (first | with_reducible refine wT ?_ | with_reducible refine wF ?_ | with_reducible refine wbd (by assumption) ?_ | with_reducible refine wadd1 (by omega) ?_ | with_reducible refine wlssT (by omega) ?_ | dsimp only)
            exact next _ _ (Nat.lt_succ_self m) ⟨k + 1, c, rfl, by omega, by rw [hsu]; rfl, by omega⟩
  obtain ⟨_, h', e, rfl, k⟩ := this
  exact ⟨h', e, k⟩

end Go.Proofs.YtbmmcldbllhhhabDoor

