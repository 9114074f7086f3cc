/- Texts of this seat, in their order, put together by program. -/
import Derived.Test.YtlefknibddkjpabDoorK7
set_option linter.unusedSimpArgs false
set_option linter.unusedVariables false
set_option linter.unusedSectionVars false
/- The program's chapter 7, continued: neighbours in triangles; who has joined all sides; how many triangles are won. -/
set_option maxRecDepth 20000
namespace Go.Proofs.YtlefknibddkjpabDoor
open Go Go.Ip G

/-! ### the table of steps -/
def triSteps : List (Int × Int) := [(-1, -1), (-1, 0), (0, -1), (0, 1), (1, 0), (1, 1)]
def tstp (i : Nat) : Int × Int := triSteps.getD i (0, 0)
theorem tri_load {g : Nat → PV} {h : PHeap} (t : TabT g h) : loadP Tryd.prog 45 (g 0) h = some (.agg triCells) := by
  obtain ⟨⟨id, e, ho⟩, _⟩ := t
  rw [e]
  simp [loadP, tyTabAgg, tyTabSize, cellsAt, ho, PObj.get, triCells]
theorem tri_index (i : Nat) (hi : i < 6) : indexP Tryd.prog 45 (.agg triCells) (.int .i64 (i : Int)) = some (.agg [.int .i64 (tstp i).1, .int .i64 (tstp i).2]) := by
  have t0 : indexP Tryd.prog 45 (.agg triCells) (.int .i64 ((0 : Nat) : Int)) = some (.agg [.int .i64 (tstp 0).1, .int .i64 (tstp 0).2]) := by kernel_rfl
  have t1 : indexP Tryd.prog 45 (.agg triCells) (.int .i64 ((1 : Nat) : Int)) = some (.agg [.int .i64 (tstp 1).1, .int .i64 (tstp 1).2]) := by kernel_rfl
  have t2 : indexP Tryd.prog 45 (.agg triCells) (.int .i64 ((2 : Nat) : Int)) = some (.agg [.int .i64 (tstp 2).1, .int .i64 (tstp 2).2]) := by kernel_rfl
  have t3 : indexP Tryd.prog 45 (.agg triCells) (.int .i64 ((3 : Nat) : Int)) = some (.agg [.int .i64 (tstp 3).1, .int .i64 (tstp 3).2]) := by kernel_rfl
  have t4 : indexP Tryd.prog 45 (.agg triCells) (.int .i64 ((4 : Nat) : Int)) = some (.agg [.int .i64 (tstp 4).1, .int .i64 (tstp 4).2]) := by kernel_rfl
  have t5 : indexP Tryd.prog 45 (.agg triCells) (.int .i64 ((5 : Nat) : Int)) = some (.agg [.int .i64 (tstp 5).1, .int .i64 (tstp 5).2]) := by kernel_rfl
  have : i = 0 ∨ i = 1 ∨ i = 2 ∨ i = 3 ∨ i = 4 ∨ i = 5 := by omega
  rcases this with rfl | rfl | rfl | rfl | rfl | rfl
  · exact t0
  · exact t1
  · exact t2
  · exact t3
  · exact t4
  · exact t5
theorem tstp_small (i : Nat) : -1 ≤ (tstp i).1 ∧ (tstp i).1 ≤ 1 ∧ -1 ≤ (tstp i).2 ∧ (tstp i).2 ≤ 1 := by
  by_cases hi : i < 6
  · have : i = 0 ∨ i = 1 ∨ i = 2 ∨ i = 3 ∨ i = 4 ∨ i = 5 := by omega
    rcases this with rfl | rfl | rfl | rfl | rfl | rfl <;> decide
  · have : tstp i = (0, 0) := by
      unfold tstp
      rw [List.getD_eq_getElem?_getD, List.getElem?_eq_none (by show 6 ≤ i; omega)]; rfl
    rw [this]; decide

/-! ### pairs, and arrays of three -/
theorem stP2 {h : PHeap} {id : Nat} {a b x y : PV} (o : At h id [x, y]) {m n : Int} (ha : a = .int .i64 m) (hb : b = .int .i64 n) : storeP Tryd.prog 44 (.ptr id 0) (.agg [a, b]) h = some (h.set id (.own 1 [a, b])) := by
  subst ha hb
  simp [storeP, show h[id]? = some (.own 1 [x, y]) from o, tyPairSize, PV.cells, PV.oneCell, setCells]
theorem tyA3A : isAggT Tryd.prog 34 = some true := by kernel_rfl
theorem tyA3S : sizeT Tryd.prog 34 = some 3 := by kernel_rfl
theorem tyA3Z : zeroCellsT Tryd.prog 34 = some [.int .i64 0, .int .i64 0, .int .i64 0] := by kernel_rfl
def c3 (a b c : Nat) : List PV := [.int .i64 (a : Int), .int .i64 (b : Int), .int .i64 (c : Int)]
theorem al3 (h : PHeap) : allocP Tryd.prog 34 h = some (.ptr h.length 0, h ++ [.own 1 (c3 0 0 0)]) := by simp [allocP, tyA3Z, c3]
theorem ldA3 {h : PHeap} {id a b c : Nat} (o : At h id (c3 a b c)) : loadP Tryd.prog 34 (.ptr id 0) h = some (.agg (c3 a b c)) := by
  simp [loadP, tyA3A, tyA3S, cellsAt, show h[id]? = some (.own 1 (c3 a b c)) from o, PObj.get, c3]
theorem stA3 {h : PHeap} {id a b c a' b' c' : Nat} (o : At h id (c3 a' b' c')) : storeP Tryd.prog 34 (.ptr id 0) (.agg (c3 a b c)) h = some (h.set id (.own 1 (c3 a b c))) := by
  simp [storeP, show h[id]? = some (.own 1 (c3 a' b' c')) from o, c3, PV.cells, PV.oneCell, tyA3S, setCells]
section
variable {Q : PV → PHeap → Prop} {h : PHeap} {id : Nat}
theorem walP {F : PV × PHeap → Res} (hf : ∀ h' id, At h' id [.int .i64 0, .int .i64 0] → Keep h.length h h' → h.length ≤ id → W (F (.ptr id 0, h')) Q) : W ((allocP Tryd.prog 44 h).bind F) Q := wnew (pair_alloc h) hf
theorem wstP {x y : PV} {m n : Int} (o : At h id [x, y]) {F : PHeap → Res} (hf : ∀ h', At h' id [.int .i64 m, .int .i64 n] → KB id h h' → W (F h') Q) : W ((storeP Tryd.prog 44 (.ptr id 0) (.agg [.int .i64 m, .int .i64 n]) h).bind F) Q := by
  rw [stP2 o rfl rfl]; exact hf _ (put_at o).1 (put_at o).2
theorem wal3 {F : PV × PHeap → Res} (hf : ∀ h' id, At h' id (c3 0 0 0) → Keep h.length h h' → h.length ≤ id → W (F (.ptr id 0, h')) Q) : W ((allocP Tryd.prog 34 h).bind F) Q := wnew (al3 h) hf
theorem wstA3 {a b c a' b' c' : Nat} (o : At h id (c3 a' b' c')) {F : PHeap → Res} (hf : ∀ h', At h' id (c3 a b c) → KB id h h' → W (F h') Q) : W ((storeP Tryd.prog 34 (.ptr id 0) (.agg (c3 a b c)) h).bind F) Q := by
  rw [stA3 o]; exact hf _ (put_at o).1 (put_at o).2
theorem wi30 {F : PV → Res} (hf : W (F (.ptr id 0)) Q) : W ((indexAddrP Tryd.prog 34 (.ptr id 0) (.int .i64 0)).bind F) Q := wbd (ia3 id 0 0 (by decide)) hf
theorem wi31 {F : PV → Res} (hf : W (F (.ptr id 1)) Q) : W ((indexAddrP Tryd.prog 34 (.ptr id 0) (.int .i64 1)).bind F) Q := wbd (ia3 id 0 1 (by decide)) hf
theorem wi32 {F : PV → Res} (hf : W (F (.ptr id 2)) Q) : W ((indexAddrP Tryd.prog 34 (.ptr id 0) (.int .i64 2)).bind F) Q := wbd (ia3 id 0 2 (by decide)) hf
theorem wld {i : Nat} {l : List PV} {v : PV} (o : At h id l) (hv : l[i]? = some v) {F : PV → Res} (hf : W (F v) Q) : W ((loadP Tryd.prog 3 (.ptr id i) h).bind F) Q := wbd (ld1 o hv) hf
end

/-! ### neighbours -/
def inT (s k : Nat) (d : Int × Int) : Bool := decide ((rowT k : Int) + d.1 < (s : Int)) && (decide (0 ≤ (plT k : Int) + d.2) && decide ((plT k : Int) + d.2 ≤ (rowT k : Int) + d.1))
def cellAt (k : Nat) (d : Int × Int) : Int := ((cellsT ((rowT k : Int) + d.1).toNat + ((plT k : Int) + d.2).toNat : Nat) : Int)
def nearTS (s k : Nat) (ds : List (Int × Int)) : List Int := (ds.filter (inT s k)).map (cellAt k)
theorem nearTS_all : ((List.range 5).all fun s => (List.range (cellsT s)).all fun k => nearTS s k triSteps == listT (maskT s k)) = true := by kernel_rfl
theorem nearTS_is {s k : Nat} (hs : s ≤ 4) (hk : k < cellsT s) : nearTS s k triSteps = listT (maskT s k) :=
  beq_iff_eq.1 (List.all_eq_true.1 (List.all_eq_true.1 nearTS_all s (List.mem_range.2 (by omega))) k (List.mem_range.2 hk))
theorem nearTS_next {s k i : Nat} (hi : i < 6) : nearTS s k (triSteps.take (i + 1)) = nearTS s k (triSteps.take i) ++ (if inT s k (tstp i) = true then [cellAt k (tstp i)] else []) := by
  have hd : triSteps[i]? = some (tstp i) := by
    unfold tstp; rw [List.getD_eq_getElem?_getD]
    cases e : triSteps[i]? with
    | some v => rfl
    | none => rw [List.getElem?_eq_none_iff] at e; exact absurd (show i < triSteps.length from hi) (by omega)
  rw [List.take_add_one, hd]
  unfold nearTS
  rw [List.filter_append, List.map_append]
  congr 1
  cases e : inT s k (tstp i) <;> simp [List.filter_cons, e]
theorem nearTS_len (s k : Nat) (ds : List (Int × Int)) : (nearTS s k ds).length ≤ ds.length := by
  unfold nearTS; rw [List.length_map]; exact List.length_filter_le _ _

variable (g : Nat → PV) (lf n : Nat)

set_option maxHeartbeats 1000000 in
theorem triNear_W (N : Nat) (hN : 6 ≤ N) (hlf : 20 < lf) (side cell : Int) {h : PHeap} (ht : TabT g h) :
    ∃ q h', CL g lf N fn_impl_TriangleNear [.int .i64 side, .int .i64 cell] h = some (q, h') ∧ OwnSl h.length h' q (nearTL side cell) ∧ Keep h.length h h' := by
  obtain ⟨n, rfl⟩ : ∃ n, N = n + 1 := ⟨N - 1, by omega⟩
  suffices this : W (CL g lf (n + 1) fn_impl_TriangleNear [.int .i64 side, .int .i64 cell] h) fun q h' => OwnSl h.length h' q (nearTL side cell) ∧ Keep h.length h h' by
    obtain ⟨q, h', e, o, k⟩ := this
    exact ⟨q, h', e, o, k⟩
  have e1 := triSide_N g lf n (by omega) h side
  rw [impl_TriangleNear.call_eq]
  unfold impl_TriangleNear.main
  simp only [env_C, env_g, env_lf, env_pick, env_load, env_bin, env_un, env_extract]
  by_cases hs : 1 ≤ side ∧ side ≤ 4
  case neg =>
    rw [decide_eq_false hs] at e1
    have hno : nearTL side cell = [] := by unfold nearTL; rw [decide_eq_false hs]; rfl
    rw [hno]
    repeat (first | with_reducible refine wT ?_ | with_reducible refine wg0 rfl ?_ | with_reducible refine wpT ?_ | with_reducible refine wnF ?_ | with_reducible refine wsm ?_ | with_reducible refine wrN ?_ | with_reducible refine wbd (by assumption) ?_ | dsimp only)
    exact W.ret ⟨OwnSl.nil _ _, Keep.refl _ _⟩
  rw [decide_eq_true hs] at e1
  obtain ⟨s, rfl⟩ := Int.eq_ofNat_of_zero_le (show 0 ≤ side by omega)
  have s4 : s ≤ 4 := by omega
  have eS := triSize_N g lf (s := s) (by omega) n (by omega) h
  have hc10 := cellsT_le s4
  by_cases hc : 0 ≤ cell ∧ cell < (cellsT s : Int)
  case neg =>
    have hno : nearTL (s : Int) cell = [] := by unfold nearTL; rw [Int.toNat_natCast, decide_eq_false hc, Bool.and_false]; rfl
    rw [hno]
    obtain ⟨T, hT⟩ : ∃ T, T = cellsT s := ⟨_, rfl⟩
    rw [← hT] at eS hc10 hc
    by_cases h0 : cell < 0
    · repeat (first | with_reducible refine wT ?_ | with_reducible refine wg1 rfl ?_ | with_reducible refine wg0 rfl ?_ | with_reducible refine wpT ?_ | with_reducible refine wpF ?_ | with_reducible refine wnT ?_ | with_reducible refine wpv ?_ | with_reducible refine wsm ?_ | with_reducible refine wrN ?_ | with_reducible refine wbd (by assumption) ?_ | with_reducible refine wlssT (by omega) ?_ | dsimp only)
      exact W.ret ⟨OwnSl.nil _ _, Keep.refl _ _⟩
    · repeat (first | with_reducible refine wT ?_ | with_reducible refine wg1 rfl ?_ | with_reducible refine wpF ?_ | with_reducible refine wnT ?_ | with_reducible refine wpv ?_ | with_reducible refine wsm ?_ | with_reducible refine wrN ?_ | with_reducible refine wbd (by assumption) ?_ | with_reducible refine wlssF (by omega) ?_ | with_reducible refine wgeqT (by omega) ?_ | dsimp only)
      exact W.ret ⟨OwnSl.nil _ _, Keep.refl _ _⟩
  obtain ⟨k, rfl⟩ := Int.eq_ofNat_of_zero_le hc.1
  have hk : k < cellsT s := by omega
  have hyes : nearTL (s : Int) (k : Int) = nearTS s k triSteps := by
    unfold nearTL; rw [Int.toNat_natCast, Int.toNat_natCast, decide_eq_true hs, decide_eq_true hc, nearTS_is s4 hk]; rfl
  rw [hyes]
  have eP := fun hh => triPlace_N g lf (k := k) (by omega) n (by omega) hlf hh
  obtain ⟨r1, r2⟩ := place_le (k := k) (by omega)
  have hin : ∀ d, inT s k d = (decide ((rowT k : Int) + d.1 < (s : Int)) && (decide (0 ≤ (plT k : Int) + d.2) && decide ((plT k : Int) + d.2 ≤ (rowT k : Int) + d.1))) := fun d => rfl
  have hca : ∀ d, cellAt k d = ((cellsT ((rowT k : Int) + d.1).toNat + ((plT k : Int) + d.2).toNat : Nat) : Int) := fun d => rfl
  obtain ⟨R, hR⟩ : ∃ R, R = rowT k := ⟨_, rfl⟩
  obtain ⟨P, hP⟩ : ∃ P, P = plT k := ⟨_, rfl⟩
  rw [← hR, ← hP] at eP r2
  rw [← hR] at r1
  rw [← hR, ← hP] at hin hca
  have eL := tri_load ht
  obtain ⟨T, hT⟩ : ∃ T, T = cellsT s := ⟨_, rfl⟩
  rw [← hT] at eS hc10 hc hk
  repeat (first | with_reducible refine wF ?_ | with_reducible refine wg1 rfl ?_ | with_reducible refine wpF ?_ | with_reducible refine wnT ?_ | with_reducible refine wpv ?_ | with_reducible refine wsm ?_ | with_reducible refine wx0 ?_ | with_reducible refine wx1 ?_ | with_reducible refine wbd (by assumption) ?_ | (with_reducible refine wbd (eP _) ?_) | with_reducible refine wlssF (by omega) ?_ | with_reducible refine wgeqF (by omega) ?_ | dsimp only)
  refine loopW (fun m st => ∃ (i : Nat) (q : PV) (h2 : PHeap), st = impl_TriangleNear.st0 (.int .i64 (s : Int)) (.int .i64 (R : Int)) (.int .i64 (P : Int)) q (.agg triCells) (.int .i64 (i : Int)) h2 ∧ i + m = 6 ∧ OwnSl h.length h2 q (nearTS s k (triSteps.take i)) ∧ Keep h.length h h2) ?_ lf 6 _ (by omega) ⟨0, .nilsl, h, rfl, rfl, OwnSl.nil _ _, Keep.refl _ _⟩
  rintro n1 m st ⟨i, q, h2, rfl, him, o2, k2⟩ next
  rw [impl_TriangleNear.body0_eq]
  unfold impl_TriangleNear.body0
  simp only [env_C, env_pick, env_alloc, env_buildSlice, env_load, env_store, env_bin, env_indexAddr, env_index, env_append]
  cases m with
  | zero =>
    have hi6 : i = 6 := by omega
    subst hi6
    have hr := o2.res
    repeat (first | with_reducible refine wF ?_ | with_reducible refine wbd (by assumption) ?_ | with_reducible refine wlssF (by omega) ?_ | rw [kLoop_exit] | rw [impl_TriangleNear.after0_se0_0_5_6_7_30_31_32])
    exact W.ret ⟨o2, k2⟩
  | succ m =>
    have hi : i < 6 := by omega
    have eI := tri_index i hi
    obtain ⟨t1, t2, t3, t4⟩ := tstp_small i
    have hnx := nearTS_next (s := s) (k := k) hi
    have hini := hin (tstp i)
    have hcai := hca (tstp i)
    have hll : (nearTS s k (triSteps.take i)).length + 1 ≤ 2 ^ 36 := by
      have := nearTS_len s k (triSteps.take i)
      rw [List.length_take] at this
      omega
    obtain ⟨d1, hd1⟩ : ∃ d1, d1 = (tstp i).1 := ⟨_, rfl⟩
    obtain ⟨d2, hd2⟩ : ∃ d2, d2 = (tstp i).2 := ⟨_, rfl⟩
    rw [← hd1, ← hd2] at eI hini hcai
    rw [← hd1] at t1 t2
    rw [← hd2] at t3 t4
    repeat (first | with_reducible refine wT ?_ | with_reducible refine wbd (by assumption) ?_ | with_reducible refine wlssT (by omega) ?_)
    refine walP fun h3 id o3 k3 l3 => ?_
    dsimp only
    refine wstP o3 fun h4 o4 k4 => ?_
    have k24 : Keep h2.length h2 h4 := k3.trans (k4.keep l3 k3.1)
    have q4 := o2.keep k24
    have kk := k2.trans (k24.mono k2.1)
    have p0 := pair_addr0 id
    have p1 := pair_addr1 id
    have u0 : loadP Tryd.prog 3 (.ptr id 0) h4 = some (.int .i64 d1) := ld1 o4 rfl
    have u1 : loadP Tryd.prog 3 (.ptr id 1) h4 = some (.int .i64 d2) := ld1 o4 rfl
    obtain ⟨y, hy⟩ : ∃ y, y = (R : Int) + d1 := ⟨_, rfl⟩
    obtain ⟨x, hx⟩ : ∃ x, x = (P : Int) + d2 := ⟨_, rfl⟩
    have fy : binP Tryd.prog .add 3 (.int .i64 (R : Int)) (.int .i64 d1) = some (.int .i64 y) := by rw [bin_add, wr (by omega), hy]
    have fx : binP Tryd.prog .add 3 (.int .i64 (P : Int)) (.int .i64 d2) = some (.int .i64 x) := by rw [bin_add, wr (by omega), hx]
    rw [← hy, ← hx] at hini hcai
    by_cases c1 : y < (s : Int)
    case neg =>
      rw [decide_eq_false c1, Bool.false_and] at hini
      rw [hini, if_neg (by decide), List.append_nil] at hnx
      repeat (first | with_reducible refine wF ?_ | with_reducible refine wg0 rfl ?_ | with_reducible refine wpF ?_ | with_reducible refine wsm ?_ | with_reducible refine wbd (by assumption) ?_ | with_reducible refine wadd1 (by omega) ?_ | with_reducible refine wlssF (by omega) ?_ | dsimp only)
      exact next _ _ (Nat.lt_succ_self m) ⟨i + 1, q, h4, rfl, by omega, by rw [hnx]; exact q4, kk⟩
    by_cases c2 : 0 ≤ x
    case neg =>
      rw [decide_eq_true c1, decide_eq_false c2, Bool.false_and, Bool.and_false] at hini
      rw [hini, if_neg (by decide), List.append_nil] at hnx
      repeat (first | with_reducible refine wF ?_ | with_reducible refine wg1 rfl ?_ | with_reducible refine wg0 rfl ?_ | with_reducible refine wpT ?_ | with_reducible refine wpF ?_ | with_reducible refine wpv ?_ | with_reducible refine wsm ?_ | with_reducible refine wbd (by assumption) ?_ | with_reducible refine wadd1 (by omega) ?_ | with_reducible refine wlssT (by omega) ?_ | with_reducible refine wgeqF (by omega) ?_ | dsimp only)
      exact next _ _ (Nat.lt_succ_self m) ⟨i + 1, q, h4, rfl, by omega, by rw [hnx]; exact q4, kk⟩
    by_cases c3' : x ≤ y
    case neg =>
      rw [decide_eq_true c1, decide_eq_true c2, decide_eq_false c3', Bool.and_false, Bool.and_false] at hini
      rw [hini, if_neg (by decide), List.append_nil] at hnx
      repeat (first | with_reducible refine wF ?_ | with_reducible refine wg1 rfl ?_ | with_reducible refine wpT ?_ | with_reducible refine wpv ?_ | with_reducible refine wsm ?_ | with_reducible refine wbd (by assumption) ?_ | with_reducible refine wadd1 (by omega) ?_ | with_reducible refine wlssT (by omega) ?_ | with_reducible refine wleqF (by omega) ?_ | with_reducible refine wgeqT (by omega) ?_ | dsimp only)
      exact next _ _ (Nat.lt_succ_self m) ⟨i + 1, q, h4, rfl, by omega, by rw [hnx]; exact q4, kk⟩
    rw [decide_eq_true c1, decide_eq_true c2, decide_eq_true c3'] at hini
    rw [hini, Bool.and_self, Bool.and_self, if_pos rfl] at hnx
    obtain ⟨Y, rfl⟩ := Int.eq_ofNat_of_zero_le (show 0 ≤ y by omega)
    obtain ⟨X, rfl⟩ := Int.eq_ofNat_of_zero_le c2
    have eC := triCell_N g lf (r := Y) (p := X) (by omega) (by omega) n (by omega) h4
    rw [Int.toNat_natCast, Int.toNat_natCast] at hcai
    rw [← hcai] at eC
    obtain ⟨v, hv⟩ : ∃ v, v = cellAt k (tstp i) := ⟨_, rfl⟩
    rw [← hv] at eC hnx
    repeat (first | with_reducible refine wT ?_ | with_reducible refine wg1 rfl ?_ | with_reducible refine wpT ?_ | with_reducible refine wpv ?_ | with_reducible refine wsm ?_ | with_reducible refine wbd (by assumption) ?_ | (refine wap q4 kk.1 hll fun p' h6 o6 k6 => ?_) | with_reducible refine wadd1 (by omega) ?_ | with_reducible refine wlssT (by omega) ?_ | with_reducible refine wleqT (by omega) ?_ | with_reducible refine wgeqT (by omega) ?_ | dsimp only)
    exact next _ _ (Nat.lt_succ_self m) ⟨i + 1, p', h6, rfl, by omega, by rw [hnx]; exact o6, kk.trans k6⟩

/-! ### waves -/
set_option maxHeartbeats 1000000 in
theorem around_W {s X : Nat} (s1 : 1 ≤ s) (s4 : s ≤ 4) (hX : X < 2 ^ cellsT s) (hb : Big g) (N : Nat) (hN : 8 ≤ N) (hlf : 4000 < lf) {h : PHeap} (ht : TabT g h) :
    W (CL g lf N fn_impl_triangleAround [.int .i64 (s : Int), .int .i64 (X : Int)] h) fun v h' => v = .int .i64 (aroundT s X : Int) ∧ aroundT s X < 2 ^ 10 ∧ Keep h.length h h' := by
  obtain ⟨n, rfl⟩ : ∃ n, N = n + 1 := ⟨N - 1, by omega⟩
  have hc10 := cellsT_le s4
  have hpow : 2 ^ cellsT s ≤ 2 ^ 10 := Nat.pow_le_pow_right (by decide) hc10
  obtain ⟨G, hG⟩ : ∃ G, G = aroundT s X := ⟨_, rfl⟩
  rw [← hG]
  have hG' : aroundF s 1024 X 0 = G := hG.symm
  rw [impl_triangleAround.call_eq]
  unfold impl_triangleAround.main
  simp only [env_lf]
  refine loopW (fun m st => ∃ (rest acc : Nat) (h2 : PHeap), st = impl_triangleAround.st0 (.int .i64 (s : Int)) (.int .i64 (acc : Int)) (.int .i64 (rest : Int)) h2 ∧ rest < m ∧ rest < 2 ^ cellsT s ∧ acc < 2 ^ 10 ∧ aroundF s m rest acc = G ∧ Keep h.length h h2) ?_ lf 1024 _ (by omega) ⟨X, 0, h, rfl, by omega, hX, by decide, hG', Keep.refl _ _⟩
  rintro n1 m st ⟨rest, acc, h2, rfl, hrm, hr, hacc, hF, k2⟩ next
  rw [impl_triangleAround.body0_eq]
  unfold impl_triangleAround.body0
  simp only [env_C, env_lf, env_bin, env_len]
  obtain ⟨m, rfl⟩ : ∃ m', m = m' + 1 := ⟨m - 1, by omega⟩
  rw [aroundF] at hF
  by_cases h0 : rest = 0
  · rw [if_pos h0] at hF
    subst h0
    have hGb : G < 2 ^ 10 := hF ▸ hacc
    repeat (first | with_reducible refine wF ?_ | with_reducible refine wrI ?_ | with_reducible refine wneqF (by omega) ?_ | rw [kLoop_exit] | rw [impl_triangleAround.after0_se0_0_5_6_11])
    rw [hF]
    exact W.ret ⟨rfl, hGb, k2⟩
  · rw [if_neg h0] at hF
    have hr10 : rest < 2 ^ 10 := by omega
    have ht2 := ht.keep k2
    obtain ⟨hbit, hl10⟩ := lowT_ok hr10 h0
    have eL := leastInT_W g lf hr10 h0 hb ht2.2 n (by omega)
    have hlc : lowT rest < cellsT s := by
      rcases Nat.lt_or_ge (lowT rest) (cellsT s) with e | e
      · exact e
      · have := Nat.testBit_lt_two_pow (Nat.lt_of_lt_of_le hr (Nat.pow_le_pow_right (by decide) e))
        rw [hbit] at this; cases this
    obtain ⟨K, hK⟩ : ∃ K, K = lowT rest := ⟨_, rfl⟩
    rw [← hK] at eL hl10 hlc hF
    obtain ⟨q, h3, eN, o3, k3⟩ := triNear_W g lf n (by omega) (by omega) (s : Int) (K : Int) ht2
    have hN' : nearTL (s : Int) (K : Int) = listT (maskT s K) := by
      unfold nearTL; rw [Int.toNat_natCast, Int.toNat_natCast, decide_eq_true (by omega : 1 ≤ (s : Int) ∧ (s : Int) ≤ 4), decide_eq_true (by omega : 0 ≤ (K : Int) ∧ (K : Int) < (cellsT s : Int))]; rfl
    rw [hN'] at o3
    have hM := maskT_lt (s := s) (a := K) s4
    obtain ⟨M, hMM⟩ : ∃ M, M = maskT s K := ⟨_, rfl⟩
    rw [← hMM] at o3 hM hF
    have hmem := fun e => listT_mem hM e
    have hL10 := listT_len M
    obtain ⟨L, hL⟩ : ∃ L, L = listT M := ⟨_, rfl⟩
    rw [← hL] at o3 hmem hL10
    have hlen := o3.int.len'
    have kk := k2.trans (k3.mono k2.1)
    repeat (first | with_reducible refine wT ?_ | with_reducible refine wbd (by assumption) ?_ | with_reducible refine wneqT (by omega) ?_ | dsimp only)
    refine loopW (fun m2 st => ∃ (i a : Nat), st = impl_triangleAround.st1 (.int .i64 (s : Int)) (.int .i64 (a : Int)) (.int .i64 (rest : Int)) q (.int .i64 (L.length : Int)) (.int .i64 (i : Int)) h3 ∧ i + m2 = L.length ∧ a < 2 ^ 10 ∧ ∀ j : Nat, a.testBit j = true ↔ acc.testBit j = true ∨ (j : Int) ∈ L.take i) ?_ lf L.length _ (by omega) ⟨0, acc, rfl, by omega, hacc, fun j => by simp⟩
    rintro n2 m2 st ⟨i, a, rfl, him, ha, hbits⟩ next2
    rw [impl_triangleAround.body1_eq]
    unfold impl_triangleAround.body1
    simp only [env_load, env_bin, env_indexAddr]
    cases m2 with
    | zero =>
      have haM : a = acc ||| M := by
        apply Nat.eq_of_testBit_eq
        intro j
        rw [Bool.eq_iff_iff, hbits, Nat.testBit_or, Bool.or_eq_true, List.take_of_length_le (by omega), hmem]
        constructor
        · rintro (e | ⟨j', e, e2⟩)
          · exact .inl e
          · have : j = j' := by omega
            subst this; exact .inr e2
        · rintro (e | e)
          · exact .inl e
          · exact .inr ⟨j, rfl, e⟩
      rw [← haM] at hF
      have hr1 : 1 ≤ rest := by omega
      have hr62 : rest < 2 ^ 62 := by omega
      have hr62' : rest - 1 < 2 ^ 62 := by omega
      have hle : rest &&& (rest - 1) ≤ rest - 1 := Nat.and_le_right
      repeat (first | with_reducible refine wF ?_ | (with_reducible refine wsub1 hr1 (by omega) ?_) | (with_reducible refine wand hr62 hr62' ?_) | with_reducible refine wlssF (by omega) ?_ | rw [kLoop_exit] | rw [impl_triangleAround.after1_se2_0_5_6_19_20_21_22] | simp only [env_C, env_g, env_lf, env_pick, env_alloc, env_box, env_build, env_buildSlice, env_load, env_store, env_ptr, env_bin, env_un, env_conv, env_make, env_slice, env_fieldAddr, env_field, env_indexAddr, env_index, env_extract, env_len, env_append, env_max, env_min, env_makeMap, env_lookup, env_update])
      exact next m _ (Nat.lt_succ_self m) ⟨rest &&& (rest - 1), a, h3, rfl, by omega, by omega, ha, hF, kk⟩
    | succ m2 =>
      have hi : i < L.length := by omega
      obtain ⟨p, ep, lp⟩ := o3.int.at' hi
      obtain ⟨J, hJ, hJb⟩ := (hmem L[i]).1 (List.getElem_mem hi)
      have hJ10 : J < 10 := by
        rcases Nat.lt_or_ge J 10 with e | e
        · exact e
        · rw [Nat.testBit_lt_two_pow (Nat.lt_of_lt_of_le hM (Nat.pow_le_pow_right (by decide) e))] at hJb; cases hJb
      rw [hJ] at lp
      have hJ30 : J ≤ 30 := by omega
      have h1J : 1 <<< J < 2 ^ 10 := by rw [Nat.one_shiftLeft]; exact Nat.pow_lt_pow_right (by decide) (by omega)
      have ha62 : a < 2 ^ 62 := by omega
      have h1J62 : 1 <<< J < 2 ^ 62 := by omega
      repeat (first | with_reducible refine wT ?_ | with_reducible refine wbd (by assumption) ?_ | (with_reducible refine wshl hJ30 ?_) | (with_reducible refine wor ha62 h1J62 ?_) | with_reducible refine wadd1 (by omega) ?_ | with_reducible refine wlssT (by omega) ?_)
      refine next2 _ _ (Nat.lt_succ_self m2) ⟨i + 1, a ||| (1 <<< J), rfl, by omega, Nat.or_lt_two_pow ha h1J, fun j => ?_⟩
      rw [with_bit, Bool.or_eq_true, hbits, List.take_add_one, List.getElem?_eq_getElem hi, hJ, List.mem_append, decide_eq_true_iff, or_assoc]
      simp only [Option.toList_some, List.mem_singleton, Int.natCast_inj]

set_option maxHeartbeats 1000000 in
theorem wave_W {s X thr : Nat} (s1 : 1 ≤ s) (s4 : s ≤ 4) (hX : X < 2 ^ cellsT s) (hthr : thr < 2 ^ cellsT s) (hb : Big g) (N : Nat) (hN : 9 ≤ N) (hlf : 4000 < lf) {h : PHeap} (ht : TabT g h) :
    W (CL g lf N fn_impl_triangleWave [.int .i64 (s : Int), .int .i64 (X : Int), .int .i64 (thr : Int)] h) fun v h' => v = .int .i64 (waveT s X thr : Int) ∧ Keep h.length h h' := by
  obtain ⟨n, rfl⟩ : ∃ n, N = n + 1 := ⟨N - 1, by omega⟩
  have hc10 := cellsT_le s4
  have hpow : 2 ^ cellsT s ≤ 2 ^ 10 := Nat.pow_le_pow_right (by decide) hc10
  obtain ⟨G, hG⟩ : ∃ G, G = waveT s X thr := ⟨_, rfl⟩
  rw [← hG]
  have hG' : waveF s thr 3000 X X = G := hG.symm
  rw [impl_triangleWave.call_eq]
  unfold impl_triangleWave.main
  simp only [env_lf]
  refine loopW (fun m st => ∃ (w set : Nat) (h2 : PHeap), st = impl_triangleWave.st0 (.int .i64 (s : Int)) (.int .i64 (set : Int)) (.int .i64 (thr : Int)) (.int .i64 (w : Int)) h2 ∧ (w = 0 ∧ 1 ≤ m ∨ 2 * (1024 - set) + 2 ≤ m) ∧ w < 2 ^ cellsT s ∧ set < 2 ^ cellsT s ∧ waveF s thr m w set = G ∧ Keep h.length h h2) ?_ lf 3000 _ (by omega) ⟨X, X, h, rfl, .inr (by omega), hX, hX, hG', Keep.refl _ _⟩
  rintro n1 m st ⟨w, set, h2, rfl, hm, hw, hset, hF, k2⟩ next
  rw [impl_triangleWave.body0_eq]
  unfold impl_triangleWave.body0
  simp only [env_C, env_bin]
  obtain ⟨m, rfl⟩ : ∃ m', m = m' + 1 := ⟨m - 1, by omega⟩
  rw [waveF] at hF
  by_cases h0 : w = 0
  · rw [if_pos h0] at hF
    subst h0
    repeat (first | with_reducible refine wF ?_ | with_reducible refine wrI ?_ | with_reducible refine wneqF (by omega) ?_ | rw [kLoop_exit] | rw [impl_triangleWave.after0_se0_0_1_2_7_10])
    rw [hF]
    exact W.ret ⟨rfl, k2⟩
  · rw [if_neg h0] at hF
    have hm' : 2 * (1024 - set) + 2 ≤ m + 1 := by omega
    have eA := around_W g lf s1 s4 hw hb n (by omega) hlf (ht.keep k2)
    obtain ⟨A, hA⟩ : ∃ A, A = aroundT s w := ⟨_, rfl⟩
    rw [← hA] at eA hF
    repeat (first | with_reducible refine wT ?_ | with_reducible refine wneqT (by omega) ?_)
    refine wcall eA fun v h3 ⟨hv, hA10, k3⟩ => ?_
    subst hv
    have hAt : A &&& thr < 2 ^ cellsT s := Nat.lt_of_le_of_lt Nat.and_le_right hthr
    have hmn := minusN_lt (y := set) hAt
    obtain ⟨Y, hY⟩ : ∃ Y, Y = A &&& thr := ⟨_, rfl⟩
    have hmore := fun hne => wave_more (set := set) (w := set ||| minusN Y set) (thr := Y) hne rfl
    obtain ⟨w', hw'⟩ : ∃ w', w' = minusN Y set := ⟨_, rfl⟩
    rw [← hY] at hF hmn hAt
    rw [← hw'] at hF hmn hmore
    have hor := Nat.or_lt_two_pow hset hmn
    obtain ⟨set', hset'⟩ : ∃ set', set' = set ||| w' := ⟨_, rfl⟩
    rw [← hset'] at hF hor hmore
    have b1 : A < 2 ^ 62 := by omega
    have b2 : thr < 2 ^ 62 := by omega
    have b3 : Y < 2 ^ 62 := by omega
    have b4 : set < 2 ^ 62 := by omega
    have b5 : w' < 2 ^ 62 := by omega
    have kk := k2.trans (k3.mono k2.1)
    have nxt := next m (impl_triangleWave.st0 (.int .i64 (s : Int)) (.int .i64 (set' : Int)) (.int .i64 (thr : Int)) (.int .i64 (w' : Int)) h3) (Nat.lt_succ_self m) ⟨w', set', h3, rfl, by
      by_cases hz : w' = 0
      · exact .inl ⟨hz, by omega⟩
      · have := hmore hz
        exact .inr (by omega), hmn, hor, hF, kk⟩
    repeat (first | (with_reducible refine wand b1 b2 ?_) | (rw [← hY]) | (with_reducible refine wandNot b3 b4 ?_) | (rw [← hw']) | (with_reducible refine wor b4 b5 ?_) | (rw [← hset']) | dsimp only)
    exact nxt

theorem edgeF_lt {f : Nat → Nat} : ∀ (m : Nat), (∀ i, i < m → f i < 10) → edgeF f m < 2 ^ 10
  | 0, _ => by show (0 : Nat) < 2 ^ 10; decide
  | m + 1, h => Nat.or_lt_two_pow (edgeF_lt m fun i hi => h i (by omega)) (by rw [Nat.one_shiftLeft]; exact Nat.pow_lt_pow_right (by decide) (h m (by omega)))
theorem edge_all : ((List.range 5).all fun s => (List.range s).all fun r => decide (cellsT r < 10) && (decide (cellsT r + r < 10) && decide (cellsT (s - 1) + r < 10))) = true := by kernel_rfl
theorem edge_at {s r : Nat} (hs : s ≤ 4) (hr : r < s) : cellsT r < 10 ∧ cellsT r + r < 10 ∧ cellsT (s - 1) + r < 10 := by
  have := List.all_eq_true.1 (List.all_eq_true.1 edge_all s (List.mem_range.2 (by omega))) r (List.mem_range.2 hr)
  simpa using this

set_option maxHeartbeats 1000000 in
theorem edges_W {s : Nat} (s1 : 1 ≤ s) (s4 : s ≤ 4) (N : Nat) (hN : 3 ≤ N) (hlf : 20 < lf) (h : PHeap) :
    W (CL g lf N fn_impl_triangleEdges [.int .i64 (s : Int)] h) fun v h' => v = .agg (c3 (edgeT s 0) (edgeT s 1) (edgeT s 2)) ∧ Keep h.length h h' := by
  obtain ⟨n, rfl⟩ : ∃ n, N = n + 1 := ⟨N - 1, by omega⟩
  rw [impl_triangleEdges.call_eq]
  unfold impl_triangleEdges.main
  simp only [env_lf, env_alloc]
  refine wal3 fun h1 id1 o1 k1 l1 => ?_
  dsimp only
  refine wal3 fun h2 id2 o2 k2 l2 => ?_
  have o12 := o1.keep k2
  have hne : id1 ≠ id2 := by have := o1.lt; omega
  have kk := k1.trans (k2.mono k1.1)
  have l2' : h.length ≤ id2 := Nat.le_trans k1.1 l2
  dsimp only
  refine loopW (fun m st => ∃ (r : Nat) (h3 : PHeap), st = impl_triangleEdges.st0 (.int .i64 (s : Int)) (.ptr id1 0) (.ptr id2 0) (.int .i64 (s : Int)) (.int .i64 (r : Int)) h3 ∧ r + m = s ∧ At h3 id1 (c3 0 0 0) ∧ At h3 id2 (c3 (edgeF (edgeK s 0) r) (edgeF (edgeK s 1) r) (edgeF (edgeK s 2) r)) ∧ Keep h.length h h3) ?_ lf s _ (by omega) ⟨0, h2, rfl, by omega, o12, o2, kk⟩
  rintro n1 m st ⟨r, h3, rfl, hrm, a1, a2, k3⟩ next
  rw [impl_triangleEdges.body0_eq]
  unfold impl_triangleEdges.body0
  simp only [env_C, env_load, env_store, env_bin, env_indexAddr]
  cases m with
  | zero =>
    have hrs : r = s := by omega
    subst hrs
    have eL := ldA3 a2
    repeat (first | with_reducible refine wF ?_ | with_reducible refine wbd (by assumption) ?_ | with_reducible refine wlssF (by omega) ?_ | rw [kLoop_exit] | rw [impl_triangleEdges.after0_se0_0_2_3_5_6_7] | simp only [env_C, env_g, env_lf, env_pick, env_alloc, env_box, env_build, env_buildSlice, env_load, env_store, env_ptr, env_bin, env_un, env_conv, env_make, env_slice, env_fieldAddr, env_field, env_indexAddr, env_index, env_extract, env_len, env_append, env_max, env_min, env_makeMap, env_lookup, env_update])
    refine wstA3 a1 fun h4 o4 k4 => ?_
    have eL2 := ldA3 o4
    repeat (first | with_reducible refine wbd (by assumption) ?_ | (with_reducible exact W.ret ⟨rfl, k3.kbs (Nat.le_refl _) k4 l1⟩))
  | succ m =>
    have hr : r < s := by omega
    obtain ⟨z1, z2, z3⟩ := edge_at s4 hr
    have eC0 := fun hh => triCell0_N g lf (r := r) (by omega) n (by omega) hh
    have eC1 := fun hh => triCell_N g lf (r := r) (p := r) (by omega) (by omega) n (by omega) hh
    have eC2 := fun hh => triCell_N g lf (r := s - 1) (p := r) (by omega) (by omega) n (by omega) hh
    have f0 : edgeF (edgeK s 0) (r + 1) = edgeF (edgeK s 0) r ||| (1 <<< cellsT r) := rfl
    have f1 : edgeF (edgeK s 1) (r + 1) = edgeF (edgeK s 1) r ||| (1 <<< (cellsT r + r)) := rfl
    have f2 : edgeF (edgeK s 2) (r + 1) = edgeF (edgeK s 2) r ||| (1 <<< (cellsT (s - 1) + r)) := rfl
    have y0 : edgeF (edgeK s 0) r < 2 ^ 10 := edgeF_lt r fun i hi => (edge_at s4 (show i < s by omega)).1
    have y1 : edgeF (edgeK s 1) r < 2 ^ 10 := edgeF_lt r fun i hi => (edge_at s4 (show i < s by omega)).2.1
    have y2 : edgeF (edgeK s 2) r < 2 ^ 10 := edgeF_lt r fun i hi => (edge_at s4 (show i < s by omega)).2.2
    obtain ⟨w0, hw0⟩ : ∃ w, w = cellsT r := ⟨_, rfl⟩
    obtain ⟨w1, hw1⟩ : ∃ w, w = cellsT r + r := ⟨_, rfl⟩
    obtain ⟨w2, hw2⟩ : ∃ w, w = cellsT (s - 1) + r := ⟨_, rfl⟩
    rw [← hw0] at f0 eC0 z1
    rw [← hw1] at f1 eC1 z2
    rw [← hw2] at f2 eC2 z3
    obtain ⟨x0, hx0⟩ : ∃ x, x = edgeF (edgeK s 0) r := ⟨_, rfl⟩
    obtain ⟨x1, hx1⟩ : ∃ x, x = edgeF (edgeK s 1) r := ⟨_, rfl⟩
    obtain ⟨x2, hx2⟩ : ∃ x, x = edgeF (edgeK s 2) r := ⟨_, rfl⟩
    rw [← hx0] at f0 y0
    rw [← hx1] at f1 y1
    rw [← hx2] at f2 y2
    rw [← hx0, ← hx1, ← hx2] at a2
    have v0 : w0 ≤ 30 := by omega
    have v1 : w1 ≤ 30 := by omega
    have v2 : w2 ≤ 30 := by omega
    have t0 : 1 <<< w0 < 2 ^ 62 := by rw [Nat.one_shiftLeft]; exact Nat.pow_lt_pow_right (by decide) (by omega)
    have t1 : 1 <<< w1 < 2 ^ 62 := by rw [Nat.one_shiftLeft]; exact Nat.pow_lt_pow_right (by decide) (by omega)
    have t2 : 1 <<< w2 < 2 ^ 62 := by rw [Nat.one_shiftLeft]; exact Nat.pow_lt_pow_right (by decide) (by omega)
    have y0' : x0 < 2 ^ 62 := by omega
    have y1' : x1 < 2 ^ 62 := by omega
    have y2' : x2 < 2 ^ 62 := by omega
    have hs1 : 1 ≤ s := s1
    repeat (first | with_reducible refine wT ?_ | with_reducible refine wck plain_int ?_ | (with_reducible refine wi30 ?_) | (with_reducible refine wld (by assumption) rfl ?_) | (with_reducible refine wbd (eC0 _) ?_) | (with_reducible refine wshl v0 ?_) | (with_reducible refine wor y0' t0 ?_) | with_reducible refine wlssT (by omega) ?_ | dsimp only)
    refine wst1 a2 (show 0 < 3 by decide) fun h4 o4 k4 => ?_
    have o4 : At h4 id2 (c3 (x0 ||| (1 <<< w0)) x1 x2) := o4
    repeat (first | with_reducible refine wck plain_int ?_ | (with_reducible refine wi31 ?_) | (with_reducible refine wld (by assumption) rfl ?_) | (with_reducible refine wbd (eC1 _) ?_) | (with_reducible refine wshl v1 ?_) | (with_reducible refine wor y1' t1 ?_) | dsimp only)
    refine wst1 o4 (show 1 < 3 by decide) fun h5 o5 k5 => ?_
    have o5 : At h5 id2 (c3 (x0 ||| (1 <<< w0)) (x1 ||| (1 <<< w1)) x2) := o5
    repeat (first | with_reducible refine wck plain_int ?_ | (with_reducible refine wi32 ?_) | (with_reducible refine wld (by assumption) rfl ?_) | (with_reducible refine wbd (eC2 _) ?_) | (with_reducible refine wsub1 hs1 (by omega) ?_) | (with_reducible refine wshl v2 ?_) | (with_reducible refine wor y2' t2 ?_) | dsimp only)
    refine wst1 o5 (show 2 < 3 by decide) fun h6 o6 k6 => ?_
    have o6 : At h6 id2 (c3 (x0 ||| (1 <<< w0)) (x1 ||| (1 <<< w1)) (x2 ||| (1 <<< w2))) := o6
    repeat (first | with_reducible refine wadd1 (by omega) ?_)
    refine next m _ (Nat.lt_succ_self m) ⟨r + 1, h6, rfl, by omega, ((a1.kb k4 hne).kb k5 hne).kb k6 hne, ?_, ((k3.kbs (Nat.le_refl _) k4 l2').kbs (Nat.le_refl _) k5 l2').kbs (Nat.le_refl _) k6 l2'⟩
    rw [f0, f1, f2]; exact o6

theorem i3_0 (a b c : Nat) : indexP Tryd.prog 34 (.agg (c3 a b c)) (.int .i64 ((0 : Nat) : Int)) = some (.int .i64 (a : Int)) := by kernel_rfl
theorem i3_1 (a b c : Nat) : indexP Tryd.prog 34 (.agg (c3 a b c)) (.int .i64 ((1 : Nat) : Int)) = some (.int .i64 (b : Int)) := by kernel_rfl
theorem i3_2 (a b c : Nat) : indexP Tryd.prog 34 (.agg (c3 a b c)) (.int .i64 ((2 : Nat) : Int)) = some (.int .i64 (c : Int)) := by kernel_rfl
theorem edgeT_lt {s i : Nat} (s4 : s ≤ 4) (hi : i < 3) : edgeT s i < 2 ^ 10 := by
  have : i = 0 ∨ i = 1 ∨ i = 2 := by omega
  rcases this with rfl | rfl | rfl
  · exact edgeF_lt s fun r hr => (edge_at s4 hr).1
  · exact edgeF_lt s fun r hr => (edge_at s4 hr).2.1
  · exact edgeF_lt s fun r hr => (edge_at s4 hr).2.2

set_option maxHeartbeats 1000000 in
theorem touches_W {s own : Nat} (s1 : 1 ≤ s) (s4 : s ≤ 4) (hown : own < 2 ^ cellsT s) (hb : Big g) (N : Nat) (hN : 10 ≤ N) (hlf : 4000 < lf) {h : PHeap} (ht : TabT g h) :
    W (CL g lf N fn_impl_touchesAll [.int .i64 (s : Int), .int .i64 (own : Int)] h) fun v h' => v = .bool (lastT s own) ∧ Keep h.length h h' := by
  obtain ⟨n, rfl⟩ : ∃ n, N = n + 1 := ⟨N - 1, by omega⟩
  have hpow : 2 ^ cellsT s ≤ 2 ^ 10 := Nat.pow_le_pow_right (by decide) (cellsT_le s4)
  have hv := beq_iff_eq.1 (allTri_at touch_all s1 s4 hown)
  rw [← hv]
  rw [impl_touchesAll.call_eq]
  unfold impl_touchesAll.main
  simp only [env_C, env_lf]
  refine wcall (edges_W g lf s1 s4 n (by omega) (by omega) h) fun v h1 ⟨hv1, k1⟩ => ?_
  subst hv1
  dsimp only
  refine loopW (fun m st => ∃ (i : Nat) (h2 : PHeap), st = impl_touchesAll.st0 (.int .i64 (s : Int)) (.int .i64 (grpT s own i : Int)) (.agg (c3 (edgeT s 0) (edgeT s 1) (edgeT s 2))) (.int .i64 (i : Int)) h2 ∧ i + m = 3 ∧ Keep h.length h h2) ?_ lf 3 _ (by omega) ⟨0, h1, rfl, rfl, k1⟩
  rintro n1 m st ⟨i, h2, rfl, him, k2⟩ next
  rw [impl_touchesAll.body0_eq]
  unfold impl_touchesAll.body0
  simp only [env_C, env_bin, env_index]
  have hg := grpT_lt (s := s) hown i
  cases m with
  | zero =>
    have hi3 : i = 3 := by omega
    subst hi3
    have ht' : touchT s own = !decide (grpT s own 3 = 0) := rfl
    obtain ⟨G, hG⟩ : ∃ G, G = grpT s own 3 := ⟨_, rfl⟩
    rw [← hG] at hg ht' ⊢
    by_cases h0 : G = 0
    · rw [decide_eq_true h0] at ht'
      rw [ht']
      repeat (first | with_reducible refine wF ?_ | with_reducible refine wrB ?_ | with_reducible refine wlssF (by omega) ?_ | with_reducible refine wneqF (by omega) ?_ | rw [kLoop_exit] | rw [impl_touchesAll.after0_se0_0_5_10_11_12] | simp only [env_C, env_g, env_lf, env_pick, env_alloc, env_box, env_build, env_buildSlice, env_load, env_store, env_ptr, env_bin, env_un, env_conv, env_make, env_slice, env_fieldAddr, env_field, env_indexAddr, env_index, env_extract, env_len, env_append, env_max, env_min, env_makeMap, env_lookup, env_update])
      exact W.ret ⟨rfl, k2⟩
    · rw [decide_eq_false h0] at ht'
      rw [ht']
      repeat (first | with_reducible refine wF ?_ | with_reducible refine wrB ?_ | with_reducible refine wlssF (by omega) ?_ | with_reducible refine wneqT (by omega) ?_ | rw [kLoop_exit] | rw [impl_touchesAll.after0_se0_0_5_10_11_12] | simp only [env_C, env_g, env_lf, env_pick, env_alloc, env_box, env_build, env_buildSlice, env_load, env_store, env_ptr, env_bin, env_un, env_conv, env_make, env_slice, env_fieldAddr, env_field, env_indexAddr, env_index, env_extract, env_len, env_append, env_max, env_min, env_makeMap, env_lookup, env_update])
      exact W.ret ⟨rfl, k2⟩
  | succ m =>
    have hi : i < 3 := by omega
    have eI : indexP Tryd.prog 34 (.agg (c3 (edgeT s 0) (edgeT s 1) (edgeT s 2))) (.int .i64 (i : Int)) = some (.int .i64 (edgeT s i : Int)) := by
      have : i = 0 ∨ i = 1 ∨ i = 2 := by omega
      rcases this with rfl | rfl | rfl
      · exact i3_0 _ _ _
      · exact i3_1 _ _ _
      · exact i3_2 _ _ _
    have he := edgeT_lt (s := s) (i := i) s4 hi
    have hgs : grpT s own (i + 1) = waveT s (edgeT s i &&& grpT s own i) (grpT s own i) := rfl
    have hx : edgeT s i &&& grpT s own i < 2 ^ cellsT s := Nat.lt_of_le_of_lt Nat.and_le_right hg
    have eW := wave_W g lf s1 s4 hx hg hb n (by omega) hlf (ht.keep k2)
    have nxt := fun h3 k3 => next m (impl_touchesAll.st0 (.int .i64 (s : Int)) (.int .i64 (grpT s own (i + 1) : Int)) (.agg (c3 (edgeT s 0) (edgeT s 1) (edgeT s 2))) (.int .i64 ((i + 1 : Nat) : Int)) h3) (Nat.lt_succ_self m) ⟨i + 1, h3, rfl, by omega, k3⟩
    rw [hgs] at nxt
    obtain ⟨E, hE⟩ : ∃ E, E = edgeT s i := ⟨_, rfl⟩
    rw [← hE] at eI he eW nxt
    obtain ⟨G, hG⟩ : ∃ G, G = grpT s own i := ⟨_, rfl⟩
    rw [← hG] at hg eW nxt ⊢
    have b1 : E < 2 ^ 62 := by omega
    have b2 : G < 2 ^ 62 := by omega
    generalize (.agg (c3 (edgeT s 0) (edgeT s 1) (edgeT s 2)) : PV) = AG at eI nxt ⊢
    repeat (first | with_reducible refine wT ?_ | with_reducible refine wbd (by assumption) ?_ | (with_reducible refine wand b1 b2 ?_) | with_reducible refine wlssT (by omega) ?_)
    refine wcall eW fun v h3 ⟨hv, k3⟩ => ?_
    subst hv
    repeat (first | with_reducible refine wadd1 (by omega) ?_ | dsimp only)
    exact nxt h3 (k2.trans (k3.mono k2.1))

set_option maxHeartbeats 1000000 in
theorem triangleWinsOk (hbig : Big g) (hlf : 4000 < lf) (hT : ∀ h, TabOk g h → TabT g h) : TriangleWinsOk7 g lf := by
  intro N hN side f h ht
  obtain ⟨n, rfl⟩ : ∃ n, N = n + 1 := ⟨N - 1, by omega⟩
  have : W (CL g lf (n + 1) fn_impl_TriangleWins [.int .i64 side, .int .i64 f] h) fun v h' => v = .int .i64 (winsL side f) ∧ Keep h.length h h' := by
    have e1 := triSide_N g lf n (by omega) h side
    rw [impl_TriangleWins.call_eq]
    unfold impl_TriangleWins.main
    simp only [env_C, env_lf, env_pick, env_bin, env_un]
    by_cases hs : 1 ≤ side ∧ side ≤ 4
    case neg =>
      rw [decide_eq_false hs] at e1
      have hno : winsL side f = -1 := by unfold winsL; rw [decide_eq_false hs]; rfl
      rw [hno]
      repeat (first | with_reducible refine wT ?_ | with_reducible refine wg0 rfl ?_ | with_reducible refine wpT ?_ | with_reducible refine wnF ?_ | with_reducible refine wsm ?_ | with_reducible refine wrI ?_ | with_reducible refine wbd (by assumption) ?_ | dsimp only)
      exact W.ret ⟨rfl, Keep.refl _ _⟩
    rw [decide_eq_true hs] at e1
    obtain ⟨s, rfl⟩ := Int.eq_ofNat_of_zero_le (show 0 ≤ side by omega)
    have s1 : 1 ≤ s := by omega
    have s4 : s ≤ 4 := by omega
    have hc10 := cellsT_le s4
    have eS := triSize_N g lf (s := s) (by omega) n (by omega) h
    have hwl : winsL (s : Int) f = if 0 ≤ f ∧ f ≤ (cellsT s : Int) then (winsT s f.toNat : Int) else -1 := by
      unfold winsL; rw [decide_eq_true hs, Bool.true_and, Int.toNat_natCast]; simp
    have hwd : ∀ F, winsT s F = (List.range (2 ^ cellsT s)).countP fun A => popT A == F && lastT s A := fun F => rfl
    have htw := fun A (hA : A < 2 ^ cellsT s) (hh : PHeap) (hth : TabT g hh) => touches_W g lf s1 s4 (own := A) hA hbig n (by omega) hlf hth
    obtain ⟨T, hTT⟩ : ∃ T, T = cellsT s := ⟨_, rfl⟩
    rw [← hTT] at hc10 eS hwl hwd
    rw [← hTT] at htw
    by_cases hf : 0 ≤ f ∧ f ≤ (T : Int)
    case neg =>
      rw [hwl, if_neg hf]
      by_cases h0 : f < 0
      · repeat (first | with_reducible refine wT ?_ | with_reducible refine wg1 rfl ?_ | with_reducible refine wg0 rfl ?_ | with_reducible refine wpT ?_ | with_reducible refine wpF ?_ | with_reducible refine wnT ?_ | with_reducible refine wpv ?_ | with_reducible refine wsm ?_ | with_reducible refine wrI ?_ | with_reducible refine wbd (by assumption) ?_ | with_reducible refine wlssT (by omega) ?_ | dsimp only)
        exact W.ret ⟨rfl, Keep.refl _ _⟩
      · repeat (first | with_reducible refine wT ?_ | with_reducible refine wg1 rfl ?_ | with_reducible refine wpF ?_ | with_reducible refine wnT ?_ | with_reducible refine wpv ?_ | with_reducible refine wsm ?_ | with_reducible refine wrI ?_ | with_reducible refine wbd (by assumption) ?_ | with_reducible refine wlssF (by omega) ?_ | with_reducible refine wgtrT (by omega) ?_ | dsimp only)
        exact W.ret ⟨rfl, Keep.refl _ _⟩
    rw [hwl, if_pos hf]
    obtain ⟨F, rfl⟩ := Int.eq_ofNat_of_zero_le hf.1
    rw [Int.toNat_natCast, hwd]
    have hT30 : T ≤ 30 := by omega
    obtain ⟨M, hM⟩ : ∃ M, M = 2 ^ T := ⟨_, rfl⟩
    have hM' : 1 <<< T = M := by rw [Nat.one_shiftLeft, hM]
    have hM10 : M ≤ 2 ^ 10 := by rw [hM]; exact Nat.pow_le_pow_right (by decide) hc10
    rw [← hM] at htw ⊢
    repeat (first | with_reducible refine wF ?_ | with_reducible refine wg1 rfl ?_ | with_reducible refine wpF ?_ | with_reducible refine wnT ?_ | with_reducible refine wpv ?_ | with_reducible refine wsm ?_ | with_reducible refine wbd (by assumption) ?_ | (with_reducible refine wshl hT30 ?_) | (rw [hM']) | with_reducible refine wlssF (by omega) ?_ | with_reducible refine wgtrF (by omega) ?_ | dsimp only)
    refine loopW (fun m st => ∃ (A c : Nat) (h2 : PHeap), st = impl_TriangleWins.st0 (.int .i64 (s : Int)) (.int .i64 (F : Int)) (.int .i64 (c : Int)) (.int .i64 (M : Int)) (.int .i64 (A : Int)) h2 ∧ A + m = M ∧ c ≤ A ∧ c = ((List.range A).countP fun A => popT A == F && lastT s A) ∧ Keep h.length h h2) ?_ lf M _ (by omega) ⟨0, 0, h, rfl, by omega, by omega, rfl, Keep.refl _ _⟩
    rintro n1 m st ⟨A, c, h2, rfl, hAm, hcA, hc, k2⟩ next
    rw [impl_TriangleWins.body0_eq]
    unfold impl_TriangleWins.body0
    simp only [env_C, env_pick, env_bin]
    cases m with
    | zero =>
      have hAM : A = M := by omega
      rw [← hAM, ← hc]
      repeat (first | with_reducible refine wF ?_ | with_reducible refine wrI ?_ | with_reducible refine wlssF (by omega) ?_ | rw [kLoop_exit] | rw [impl_TriangleWins.after0_se0_0_1_5_22_23_24])
      exact W.ret ⟨rfl, k2⟩
    | succ m =>
    have hA : A < M := by omega
    have eC := countInT_W g lf n (by omega) h2 (x := A) (by omega)
    have hsucc : ((List.range (A + 1)).countP fun A => popT A == F && lastT s A) = c + if (popT A == F && lastT s A) = true then 1 else 0 := by
      rw [List.range_succ, List.countP_append, ← hc]; simp
    by_cases hp : popT A = F
    case neg =>
      have hne : ¬ (popT A : Int) = (F : Int) := by omega
      have hno : (popT A == F && lastT s A) = false := by rw [beq_eq_false_iff_ne.2 hp]; rfl
      rw [hno] at hsucc
      repeat (first | with_reducible refine wT ?_ | with_reducible refine wF ?_ | with_reducible refine wg0 rfl ?_ | with_reducible refine wpF ?_ | with_reducible refine wsm ?_ | with_reducible refine wbd (by assumption) ?_ | with_reducible refine wadd1 (by omega) ?_ | with_reducible refine wlssT (by omega) ?_ | with_reducible refine weqlF (by omega) ?_ | dsimp only)
      exact next _ _ (Nat.lt_succ_self m) ⟨A + 1, c, h2, rfl, by omega, by omega, by rw [hsucc]; rfl, k2⟩
    have hpe : (popT A : Int) = (F : Int) := by omega
    have eW := htw A hA h2 ((hT h ht).keep k2)
    repeat (first | with_reducible refine wT ?_ | with_reducible refine wg1 rfl ?_ | with_reducible refine wsm ?_ | with_reducible refine wbd (by assumption) ?_ | with_reducible refine wlssT (by omega) ?_ | with_reducible refine weqlT (by omega) ?_ | dsimp only)
    refine wcall eW fun v h3 ⟨hv, k3⟩ => ?_
    subst hv
    have kk := k2.trans (k3.mono k2.1)
    cases hlast : lastT s A with
    | true =>
      have hyes : (popT A == F && lastT s A) = true := by rw [hlast, beq_iff_eq.2 hp]; rfl
      rw [if_pos hyes] at hsucc
      repeat (first | with_reducible refine wT ?_ | with_reducible refine wpT ?_ | with_reducible refine wadd1 (by omega) ?_ | dsimp only)
      exact next _ _ (Nat.lt_succ_self m) ⟨A + 1, c + 1, h3, rfl, by omega, by omega, hsucc.symm, kk⟩
    | false =>
      have hno : (popT A == F && lastT s A) = false := by rw [hlast, Bool.and_false]
      rw [hno] at hsucc
      repeat (first | with_reducible refine wF ?_ | with_reducible refine wpT ?_ | with_reducible refine wadd1 (by omega) ?_ | dsimp only)
      exact next _ _ (Nat.lt_succ_self m) ⟨A + 1, c, h3, rfl, by omega, by omega, by rw [hsucc]; rfl, kk⟩
  obtain ⟨_, h', e, rfl, k⟩ := this
  exact ⟨h', e, k⟩

end Go.Proofs.YtlefknibddkjpabDoor

