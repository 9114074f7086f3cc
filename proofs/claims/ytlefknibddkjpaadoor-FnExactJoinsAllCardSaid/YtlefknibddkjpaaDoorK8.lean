/- Texts of this seat, in their order, put together by program. -/
import Derived.Test.YtlefknibddkjpaaDoorK7
set_option linter.unusedSimpArgs false
set_option linter.unusedVariables false
set_option linter.unusedSectionVars false
/- What a pick and a chance come to. -/
set_option maxRecDepth 20000
namespace Go.Proofs.YtlefknibddkjpaaDoor
open Go Go.Ip Go.RowKit G

variable (g : Nat → PV) (lf n : Nat)

theorem tmod_range {x k : Int} (hx : 0 ≤ x) (hk : 1 ≤ k) : 0 ≤ x.tmod k ∧ x.tmod k < k := by
  rw [Int.tmod_eq_emod_of_nonneg hx]
  exact ⟨Int.emod_nonneg _ (by omega), Int.emod_lt_of_pos _ (by omega)⟩

theorem tdiv_range {x k : Int} (hx : 0 ≤ x) (hk : 1 ≤ k) : 0 ≤ x.tdiv k ∧ x.tdiv k ≤ x := by
  rw [Int.tdiv_eq_ediv_of_nonneg hx]
  exact ⟨Int.ediv_nonneg hx (by omega), Int.ediv_le_self _ hx⟩

theorem bd {α β : Type} {x : Option α} {v : α} {f : α → Option β} {r : Option β} (hx : x = some v) (hf : f v = r) : x.bind f = r := by rw [hx]; exact hf
theorem cdT {x y r : Res} (h : x = r) : condP (.bool true) x y = r := h
theorem cdF {x y r : Res} (h : y = r) : condP (.bool false) x y = r := h
/-- A pick of n: some number from 0 on, below n; the reader has gone on by one. -/
theorem pick_calls {h : PHeap} {id m : Nat} (N : Nat) (hN : 1 ≤ N) (k : Int) (hr : Rd h id m) (hm : m ≤ 1000000) (hk : k ≤ 1000000) :
    ∃ (v : Int) (h' : PHeap), CL g lf N fn_spec_l20Rd_pick [.ptr id 0, .int .i64 k] h = some (.int .i64 v, h') ∧ Rd h' id (m + 1) ∧ Only id (id + 1) h h' ∧ 0 ≤ v ∧ (1 ≤ k → v < k) ∧ (k < 1 → v = 0) := by
  obtain ⟨n, rfl⟩ : ∃ n, N = n + 1 := ⟨N - 1, by omega⟩
  rw [spec_l20Rd_pick.call_eq]
  obtain ⟨bp, bs, pos, ho, hs, hb, hl, hp0, hpm⟩ := hr
  have hid : id < h.length := (List.getElem?_eq_some_iff.1 ho).1
  have w1 : IntKind.i64.wrap (pos + 1) = pos + 1 := wr (by omega)
  have hld : loadP Tryd.prog 3 (.ptr id (0 + 1)) h = some (.int .i64 pos) := by simp [loadP, tyAgg, cellsAt, ho, PObj.get]
  obtain ⟨h7, hh7⟩ : ∃ h7, h7 = h.set id (.own 1 [bp, .int .i64 (pos + 1)]) := ⟨_, rfl⟩
  have hst : storeP Tryd.prog 3 (.ptr id (0 + 1)) (.int .i64 (pos + 1)) h = some h7 := by
    rw [hh7]
    simp [storeP, ho, PV.cells, tySize, setCells]
  have ho7 : h7[id]? = some (.own 1 [bp, .int .i64 (pos + 1)]) := by rw [hh7, List.getElem?_set_self hid]
  have hk7 : Keep id h h7 := by rw [hh7]; exact Keep.set _ _ _ _ (Nat.le_refl _)
  have hon : Only id (id + 1) h h7 := by rw [hh7]; exact ⟨by simp, fun j hj => List.getElem?_set_ne (by omega)⟩
  have hrd : Rd h7 id (m + 1) := ⟨bp, bs, pos + 1, ho7, fun h' hk' => hs h' (hk7.trans hk'), hb, hl, by omega, by push_cast; omega⟩
  have hl1 : loadP Tryd.prog 3 (.ptr id (0 + 1)) h7 = some (.int .i64 (pos + 1)) := by simp [loadP, tyAgg, cellsAt, ho7, PObj.get]
  have hl0 : loadP Tryd.prog 22 (.ptr id (0 + 0)) h7 = some bp := by simp [loadP, tyBsAgg, cellsAt, ho7, PObj.get]
  have hs7 := hs h7 hk7
  have hlen : lenP Tryd.prog 22 bp = some (.int .i64 bs.length) := hs7.len tyB
  have w2 : IntKind.i64.wrap (pos + 1 - 1) = pos := by rw [show pos + 1 - 1 = pos by omega]; exact wr (by omega)
  by_cases hk1 : k < 1
  · refine ⟨0, h7, ?_, hrd, hon, by omega, by omega, fun _ => rfl⟩
    have f_add : binP Tryd.prog .add 3 (.int .i64 pos) (.int .i64 1) = some (.int .i64 (pos + 1)) := by rw [bin_add, w1]
    have f_lss : binP Tryd.prog .lss 3 (.int .i64 k) (.int .i64 1) = some (.bool true) := by rw [bin_lss, decide_eq_true hk1]
    unfold spec_l20Rd_pick.main
    refine bd ptr_ptr (bd (fa1 _ _) (bd hld (bd f_add (bd ptr_ptr (bd (fa1 _ _) (bd hst (bd f_lss ?_)))))))
    refine bd (want_bool (x := true) (y := false)) (bd (v := (PV.tup [], h7)) rfl ?_)
    refine bd (want_bool (x := true) (y := false)) (bd (v := (PV.tup [], h7)) rfl ?_)
    refine bd (want_bool (x := true) (y := false)) (bd (v := (PV.tup [], h7)) rfl ?_)
    refine bd (want_bool (x := true) (y := false)) (bd (v := (PV.tup [], h7)) rfl ?_)
    refine bd (want_bool (x := true) (y := false)) (bd (v := (PV.tup [], h7)) rfl ?_)
    refine bd (want_bool (x := true) (y := false)) (bd (v := (PV.tup [], h7)) rfl ?_)
    refine bd (v := PV.bool true) rfl (cdT ?_)
    exact bd res_int rfl
  · have hk1' : 1 ≤ k := by omega
    by_cases hb0 : bs.length = 0
    · refine ⟨0, h7, ?_, hrd, hon, by omega, by omega, by omega⟩
      have f_add : binP Tryd.prog .add 3 (.int .i64 pos) (.int .i64 1) = some (.int .i64 (pos + 1)) := by rw [bin_add, w1]
      have f_lss : binP Tryd.prog .lss 3 (.int .i64 k) (.int .i64 1) = some (.bool false) := by rw [bin_lss, decide_eq_false hk1]
      have f_eql : binP Tryd.prog .eql 3 (.int .i64 (bs.length : Int)) (.int .i64 0) = some (.bool true) := by rw [bin_eql, hb0]; rfl
      unfold spec_l20Rd_pick.main
      refine bd ptr_ptr (bd (fa1 _ _) (bd hld (bd f_add (bd ptr_ptr (bd (fa1 _ _) (bd hst (bd f_lss ?_)))))))
      refine bd (want_bool (x := false) (y := false)) (bd (v := (PV.ptr id 0, h7)) rfl ?_)
      refine bd (want_bool (x := false) (y := false)) (bd (v := (PV.ptr id 0, h7)) rfl ?_)
      refine bd (want_bool (x := false) (y := false)) (bd (v := (PV.ptr id (0 + 0), h7)) (congrArg (pv h7) (fa0 id 0)) ?_)
      refine bd (want_bool (x := false) (y := false)) (bd (v := (bp, h7)) (congrArg (pv h7) hl0) ?_)
      refine bd (want_bool (x := false) (y := false)) (bd (v := (PV.int .i64 (bs.length : Int), h7)) (congrArg (pv h7) hlen) ?_)
      refine bd (want_bool (x := false) (y := false)) (bd (v := (PV.bool true, h7)) (congrArg (pv h7) f_eql) ?_)
      refine bd (v := PV.bool true) rfl (cdT ?_)
      exact bd res_int rfl
    · have hb1 : 1 ≤ (bs.length : Int) := by omega
      have hne : ((bs.length : Int) == 0) = false := beq_eq_false_iff_ne.2 (by omega)
      obtain ⟨P, hP⟩ := Int.eq_ofNat_of_zero_le hp0
      subst hP
      have byte : ∀ (j : Nat) (hj : j < bs.length), ∃ a, indexAddrP Tryd.prog 22 bp (.int .i64 j) = some a ∧ loadP Tryd.prog 5 a h7 = some (.int .u8 bs[j]) ∧ 0 ≤ bs[j] ∧ bs[j] ≤ 255 ∧ IntKind.i64.wrap bs[j] = bs[j] := by
        intro j hj
        obtain ⟨a, h1, h2⟩ := hs7.at tyB tyBSize tyBAgg hj
        have := hb _ (List.getElem_mem hj)
        exact ⟨a, h1, h2, this.1, this.2, wr (by omega)⟩
      by_cases hlt : (P : Int) < (bs.length : Int)
      · obtain ⟨a, ha, hla, hb2, hb3, hw⟩ := byte P (by omega)
        have hr := tmod_range hb2 hk1'
        refine ⟨bs[P].tmod k, h7, ?_, hrd, hon, hr.1, fun _ => hr.2, by omega⟩
        have hrem := bin_rem (P := Tryd.prog) (t := 3) (k := .i64) (a := bs[P]) (show k ≠ 0 by omega)
        have f_add : binP Tryd.prog .add 3 (.int .i64 (P : Int)) (.int .i64 1) = some (.int .i64 ((P : Int) + 1)) := by rw [bin_add, w1]
        have f_lss : binP Tryd.prog .lss 3 (.int .i64 k) (.int .i64 1) = some (.bool false) := by rw [bin_lss, decide_eq_false hk1]
        have f_eql : binP Tryd.prog .eql 3 (.int .i64 (bs.length : Int)) (.int .i64 0) = some (.bool false) := by rw [bin_eql, hne]
        have f_sub : binP Tryd.prog .sub 3 (.int .i64 ((P : Int) + 1)) (.int .i64 1) = some (.int .i64 (P : Int)) := by rw [bin_sub, w2]
        have f_lt : binP Tryd.prog .lss 3 (.int .i64 (P : Int)) (.int .i64 (bs.length : Int)) = some (.bool true) := by rw [bin_lss, decide_eq_true hlt]
        have f_conv : convP Tryd.prog 5 3 (.int .u8 bs[P]) = some (.int .i64 bs[P]) := by rw [conv_byte, hw]
        unfold spec_l20Rd_pick.main
        refine bd ptr_ptr (bd (fa1 _ _) (bd hld (bd f_add (bd ptr_ptr (bd (fa1 _ _) (bd hst (bd f_lss ?_)))))))
        refine bd (want_bool (x := false) (y := false)) (bd (v := (PV.ptr id 0, h7)) rfl ?_)
        refine bd (want_bool (x := false) (y := false)) (bd (v := (PV.ptr id 0, h7)) rfl ?_)
        refine bd (want_bool (x := false) (y := false)) (bd (v := (PV.ptr id (0 + 0), h7)) (congrArg (pv h7) (fa0 id 0)) ?_)
        refine bd (want_bool (x := false) (y := false)) (bd (v := (bp, h7)) (congrArg (pv h7) hl0) ?_)
        refine bd (want_bool (x := false) (y := false)) (bd (v := (PV.int .i64 (bs.length : Int), h7)) (congrArg (pv h7) hlen) ?_)
        refine bd (want_bool (x := false) (y := false)) (bd (v := (PV.bool false, h7)) (congrArg (pv h7) f_eql) ?_)
        refine bd (v := PV.bool false) rfl (cdF ?_)
        refine bd ptr_ptr (bd (fa1 _ _) (bd hl1 (bd f_sub (bd ptr_ptr (bd (fa0 _ _) (bd hl0 (bd hlen (bd f_lt (cdT ?_)))))))))
        refine bd ptr_ptr (bd (fa0 _ _) (bd hl0 (bd ha (bd hla (bd f_conv (bd hrem (bd res_int rfl)))))))
      · -- past its end
        have hr1 := tmod_range (x := (P : Int)) (k := (bs.length : Int)) (by omega) hb1
        obtain ⟨i1, hi1⟩ : ∃ i : Nat, (P : Int).tmod (bs.length : Int) = i := ⟨((P : Int).tmod bs.length).toNat, by omega⟩
        have hr2 := tmod_range (x := (P : Int) * 7 + 3) (k := (bs.length : Int)) (by omega) hb1
        obtain ⟨i2, hi2⟩ : ∃ i : Nat, ((P : Int) * 7 + 3).tmod (bs.length : Int) = i := ⟨(((P : Int) * 7 + 3).tmod bs.length).toNat, by omega⟩
        obtain ⟨a1, ha1, hla1, c1, c2, hw1⟩ := byte i1 (by omega)
        obtain ⟨a2, ha2, hla2, d1, d2, hw2⟩ := byte i2 (by omega)
        obtain ⟨b1, hb1'⟩ : ∃ b, b = bs[i1]'(by omega) := ⟨_, rfl⟩
        obtain ⟨b2, hb2'⟩ : ∃ b, b = bs[i2]'(by omega) := ⟨_, rfl⟩
        rw [← hb1'] at hla1 c1 c2 hw1
        rw [← hb2'] at hla2 d1 d2 hw2
        have hq := tdiv_range (x := (P : Int)) (k := (bs.length : Int)) (by omega) hb1
        have hquo := bin_quo (P := Tryd.prog) (t := 3) (k := .i64) (a := (P : Int)) (show (bs.length : Int) ≠ 0 by omega)
        have hrem1 := bin_rem (P := Tryd.prog) (t := 3) (k := .i64) (a := (P : Int)) (show (bs.length : Int) ≠ 0 by omega)
        have hrem2 := bin_rem (P := Tryd.prog) (t := 3) (k := .i64) (a := (P : Int) * 7 + 3) (show (bs.length : Int) ≠ 0 by omega)
        obtain ⟨q, hq'⟩ : ∃ q, q = (P : Int).tdiv (bs.length : Int) := ⟨_, rfl⟩
        rw [← hq'] at hq hquo
        have u1 : IntKind.i64.wrap (b1 * 131) = b1 * 131 := wr (by omega)
        have u2 : IntKind.i64.wrap ((P : Int) * 7) = (P : Int) * 7 := wr (by omega)
        have u3 : IntKind.i64.wrap ((P : Int) * 7 + 3) = (P : Int) * 7 + 3 := wr (by omega)
        have u4 : IntKind.i64.wrap (b2 * 1117) = b2 * 1117 := wr (by omega)
        have u5 : IntKind.i64.wrap (b1 * 131 + b2 * 1117) = b1 * 131 + b2 * 1117 := wr (by omega)
        have u6 : IntKind.i64.wrap ((P : Int) * 29) = (P : Int) * 29 := wr (by omega)
        have u7 : IntKind.i64.wrap (b1 * 131 + b2 * 1117 + (P : Int) * 29) = b1 * 131 + b2 * 1117 + (P : Int) * 29 := wr (by omega)
        have u8 : IntKind.i64.wrap q = q := wr (by omega)
        have u9 : IntKind.i64.wrap (q * 53) = q * 53 := wr (by omega)
        obtain ⟨X, hX⟩ : ∃ X, X = b1 * 131 + b2 * 1117 + (P : Int) * 29 + q * 53 := ⟨_, rfl⟩
        have u10 : IntKind.i64.wrap X = X := wr (by omega)
        have hX0 : 0 ≤ X := by omega
        have hX1 : X < 4611686018427387904 := by omega
        have hXq := tdiv_range (x := X) (k := 64) hX0 (by omega)
        have hquoX := bin_quo (P := Tryd.prog) (t := 3) (k := .i64) (a := X) (show (64 : Int) ≠ 0 by omega)
        obtain ⟨Y, hY⟩ : ∃ Y, Y = X.tdiv 64 := ⟨_, rfl⟩
        rw [← hY] at hXq hquoX
        have u11 : IntKind.i64.wrap Y = Y := wr (by omega)
        obtain ⟨Z, hZ⟩ : ∃ Z, Z = IntKind.i64.wrap ((BitVec.ofInt IntKind.i64.bits X ^^^ BitVec.ofInt IntKind.i64.bits Y).toNat : Int) := ⟨_, rfl⟩
        have hZ0 : 0 ≤ Z := by rw [hZ]; exact xor_small hX0 hX1 hXq.1 (by omega)
        have hxor : binP Tryd.prog .xor 3 (.int .i64 X) (.int .i64 Y) = some (.int .i64 Z) := by rw [hZ]; simp [binP, binI]
        have hremZ := bin_rem (P := Tryd.prog) (t := 3) (k := .i64) (a := Z) (show k ≠ 0 by omega)
        have hrZ := tmod_range hZ0 hk1'
        refine ⟨Z.tmod k, h7, ?_, hrd, hon, hrZ.1, fun _ => hrZ.2, by omega⟩
        have f_add : binP Tryd.prog .add 3 (.int .i64 (P : Int)) (.int .i64 1) = some (.int .i64 ((P : Int) + 1)) := by rw [bin_add, w1]
        have f_lss : binP Tryd.prog .lss 3 (.int .i64 k) (.int .i64 1) = some (.bool false) := by rw [bin_lss, decide_eq_false hk1]
        have f_eql : binP Tryd.prog .eql 3 (.int .i64 (bs.length : Int)) (.int .i64 0) = some (.bool false) := by rw [bin_eql, hne]
        have f_sub : binP Tryd.prog .sub 3 (.int .i64 ((P : Int) + 1)) (.int .i64 1) = some (.int .i64 (P : Int)) := by rw [bin_sub, w2]
        have f_lt : binP Tryd.prog .lss 3 (.int .i64 (P : Int)) (.int .i64 (bs.length : Int)) = some (.bool false) := by rw [bin_lss, decide_eq_false hlt]
        have f_conv1 : convP Tryd.prog 5 3 (.int .u8 b1) = some (.int .i64 b1) := by rw [conv_byte, hw1]
        have f_conv2 : convP Tryd.prog 5 3 (.int .u8 b2) = some (.int .i64 b2) := by rw [conv_byte, hw2]
        have f_rem1 : binP Tryd.prog .rem 3 (.int .i64 (P : Int)) (.int .i64 (bs.length : Int)) = some (.int .i64 (i1 : Int)) := by rw [hrem1, hi1]
        have f_rem2 : binP Tryd.prog .rem 3 (.int .i64 ((P : Int) * 7 + 3)) (.int .i64 (bs.length : Int)) = some (.int .i64 (i2 : Int)) := by rw [hrem2, hi2]
        have f1 : binP Tryd.prog .mul 3 (.int .i64 b1) (.int .i64 131) = some (.int .i64 (b1 * 131)) := by rw [bin_mul, u1]
        have f2 : binP Tryd.prog .mul 3 (.int .i64 (P : Int)) (.int .i64 7) = some (.int .i64 ((P : Int) * 7)) := by rw [bin_mul, u2]
        have f3 : binP Tryd.prog .add 3 (.int .i64 ((P : Int) * 7)) (.int .i64 3) = some (.int .i64 ((P : Int) * 7 + 3)) := by rw [bin_add, u3]
        have f4 : binP Tryd.prog .mul 3 (.int .i64 b2) (.int .i64 1117) = some (.int .i64 (b2 * 1117)) := by rw [bin_mul, u4]
        have f5 : binP Tryd.prog .add 3 (.int .i64 (b1 * 131)) (.int .i64 (b2 * 1117)) = some (.int .i64 (b1 * 131 + b2 * 1117)) := by rw [bin_add, u5]
        have f6 : binP Tryd.prog .mul 3 (.int .i64 (P : Int)) (.int .i64 29) = some (.int .i64 ((P : Int) * 29)) := by rw [bin_mul, u6]
        have f7 : binP Tryd.prog .add 3 (.int .i64 (b1 * 131 + b2 * 1117)) (.int .i64 ((P : Int) * 29)) = some (.int .i64 (b1 * 131 + b2 * 1117 + (P : Int) * 29)) := by rw [bin_add, u7]
        have f8 : binP Tryd.prog .quo 3 (.int .i64 (P : Int)) (.int .i64 (bs.length : Int)) = some (.int .i64 q) := by rw [hquo, u8]
        have f9 : binP Tryd.prog .mul 3 (.int .i64 q) (.int .i64 53) = some (.int .i64 (q * 53)) := by rw [bin_mul, u9]
        have f10 : binP Tryd.prog .add 3 (.int .i64 (b1 * 131 + b2 * 1117 + (P : Int) * 29)) (.int .i64 (q * 53)) = some (.int .i64 X) := by rw [bin_add, ← hX, u10]
        have f11 : binP Tryd.prog .quo 3 (.int .i64 X) (.int .i64 64) = some (.int .i64 Y) := by rw [hquoX, u11]
        clear hX hY hZ u1 u2 u3 u4 u5 u6 u7 u8 u9 u10 u11 hq' hquo hquoX hrem1 hrem2
        unfold spec_l20Rd_pick.main
        refine bd ptr_ptr (bd (fa1 _ _) (bd hld (bd f_add (bd ptr_ptr (bd (fa1 _ _) (bd hst (bd f_lss ?_)))))))
        refine bd (want_bool (x := false) (y := false)) (bd (v := (PV.ptr id 0, h7)) rfl ?_)
        refine bd (want_bool (x := false) (y := false)) (bd (v := (PV.ptr id 0, h7)) rfl ?_)
        refine bd (want_bool (x := false) (y := false)) (bd (v := (PV.ptr id (0 + 0), h7)) (congrArg (pv h7) (fa0 id 0)) ?_)
        refine bd (want_bool (x := false) (y := false)) (bd (v := (bp, h7)) (congrArg (pv h7) hl0) ?_)
        refine bd (want_bool (x := false) (y := false)) (bd (v := (PV.int .i64 (bs.length : Int), h7)) (congrArg (pv h7) hlen) ?_)
        refine bd (want_bool (x := false) (y := false)) (bd (v := (PV.bool false, h7)) (congrArg (pv h7) f_eql) ?_)
        refine bd (v := PV.bool false) rfl (cdF ?_)
        refine bd ptr_ptr (bd (fa1 _ _) (bd hl1 (bd f_sub (bd ptr_ptr (bd (fa0 _ _) (bd hl0 (bd hlen (bd f_lt (cdF ?_)))))))))
        refine bd ptr_ptr (bd (fa0 _ _) (bd hl0 (bd ptr_ptr (bd (fa0 _ _) (bd hl0 (bd hlen (bd f_rem1 (bd ha1 (bd hla1 (bd f_conv1 (bd f1 ?_)))))))))))
        refine bd ptr_ptr (bd (fa0 _ _) (bd hl0 (bd f2 (bd f3 (bd ptr_ptr (bd (fa0 _ _) (bd hl0 (bd hlen (bd f_rem2 (bd ha2 (bd hla2 (bd f_conv2 (bd f4 ?_)))))))))))))
        refine bd f5 (bd f6 (bd f7 (bd ptr_ptr (bd (fa0 _ _) (bd hl0 (bd hlen (bd f8 (bd f9 (bd f10 (bd f11 (bd hxor (bd hremZ (bd res_int rfl)))))))))))))

theorem odd_calls {h : PHeap} {id m : Nat} (N : Nat) (hN : 2 ≤ N) (k : Int) (hr : Rd h id m) (hm : m ≤ 1000000) (hk : k ≤ 1000000) (hk0 : 1 ≤ k) :
    ∃ (b : Bool) (h' : PHeap), CL g lf N fn_spec_l20Rd_odd [.ptr id 0, .int .i64 k] h = some (.bool b, h') ∧ Rd h' id (m + 1) ∧ Only id (id + 1) h h' := by
  obtain ⟨n, rfl⟩ : ∃ n, N = n + 1 := ⟨N - 1, by omega⟩
  rw [spec_l20Rd_odd.call_eq]
  obtain ⟨v, h', e, hr', ho, _⟩ := pick_calls g lf n (by omega) k hr hm hk
  have hpos : (0 : Int) < k := by omega
  have w1 : IntKind.i64.wrap (k - 1) = k - 1 := wr (by omega)
  refine ⟨v == k - 1, h', ?_, hr', ho⟩
  simp [spec_l20Rd_odd.main, hpos, e, w1]

end Go.Proofs.YtlefknibddkjpaaDoor

/- The board that the model draws: small numbers, whatever they are. -/
set_option maxRecDepth 20000
namespace Go.Proofs.YtlefknibddkjpaaDoor
open Go Go.Ip Go.RowKit G

/-- Below n nothing has turned but the object id. -/
def KeepX (id n : Nat) (h h' : PHeap) : Prop := h.length ≤ h'.length ∧ ∀ i, i < n → i ≠ id → h'[i]? = h[i]?

theorem KeepX.refl (id n : Nat) (h : PHeap) : KeepX id n h h := ⟨Nat.le_refl _, fun _ _ _ => rfl⟩
theorem KeepX.trans {id n : Nat} {a b c : PHeap} (h : KeepX id n a b) (k : KeepX id n b c) : KeepX id n a c := ⟨Nat.le_trans h.1 k.1, fun i hi hn => (k.2 i hi hn).trans (h.2 i hi hn)⟩
theorem KeepX.mono {id n m : Nat} {a b : PHeap} (h : KeepX id n a b) (hm : m ≤ n) : KeepX id m a b := ⟨h.1, fun i hi hn => h.2 i (by omega) hn⟩
theorem Keep.x {id n : Nat} {a b : PHeap} (h : Keep n a b) : KeepX id n a b := ⟨h.1, fun i hi _ => h.2 i hi⟩
theorem Only.x {id n : Nat} {a b : PHeap} (h : Only id (id + 1) a b) : KeepX id n a b := ⟨by rw [h.1]; exact Nat.le_refl _, fun i _ hn => h.2 i (by omega)⟩
theorem KeepX.keep {id n : Nat} {a b : PHeap} (h : KeepX id n a b) (hn : id ≤ n) : Keep id a b := ⟨h.1, fun i hi => h.2 i (by omega) (by omega)⟩

theorem OwnSl.keepX {id n m : Nat} {h h' : PHeap} {p : PV} {xs : List Int} (s : OwnSl n h p xs) (hk : KeepX id m h h') (hn : id < n) (hm : h.length ≤ m) : OwnSl n h' p xs := by
  rcases s with s | ⟨i, h1, h2, h3⟩
  · exact .inl s
  · have := (List.getElem?_eq_some_iff.1 h3).1
    exact .inr ⟨i, h1, h2, by rw [hk.2 i (by omega) (by omega)]; exact h3⟩

theorem lit2 (h E : PHeap) (a b : Int) : buildSliceP Tryd.prog 25 2 [(0, .int .i64 a), (1, .int .i64 b)] (h ++ E) = some (.sl (h.length + E.length) 0 2, h ++ (E ++ [.own 1 [.int .i64 a, .int .i64 b]])) := by
  simp [buildSliceP, tyElem, tySize, tyZero, repeatCells, fillP, PV.cells, setCells]

theorem Rd.mono {h : PHeap} {id m m' : Nat} (r : Rd h id m) (hm : m ≤ m') : Rd h id m' := by
  obtain ⟨bp, bs, pos, h1, h2, h3, h4, h5, h6⟩ := r
  exact ⟨bp, bs, pos, h1, h2, h3, h4, h5, by omega⟩

variable (g : Nat → PV) (lf n : Nat)

end Go.Proofs.YtlefknibddkjpaaDoor

/- Promise 1: boards are turned. -/
set_option maxRecDepth 20000
namespace Go.Proofs.YtlefknibddkjpaaDoor
open Go Go.Ip Go.RowKit G

variable (g : Nat → PV) (lf n : Nat)

theorem boardOk_N (N : Nat) (hN : 2 ≤ N) (h : PHeap) (r c : Int) : CL g lf N fn_impl_BoardOk [.int .i64 r, .int .i64 c] h = some (.bool (boardB r c), h) := by
  obtain ⟨n, rfl⟩ : ∃ n, N = n + 2 := ⟨N - 2, by omega⟩
  exact boardOk_calls g lf n h r c
end Go.Proofs.YtlefknibddkjpaaDoor

/- The position that the model draws: at most ten numbers, whatever they are. -/
set_option maxRecDepth 20000
namespace Go.Proofs.YtlefknibddkjpaaDoor
open Go Go.Ip Go.RowKit G

variable (g : Nat → PV) (lf n : Nat)

theorem OwnSl.keepOnly {n id : Nat} {h h' : PHeap} {p : PV} {xs : List Int} (s : OwnSl n h p xs) (hk : Only id (id + 1) h h') (hn : id < n) : OwnSl n h' p xs :=
  s.keepX (m := h.length) hk.x hn (Nat.le_refl _)

end Go.Proofs.YtlefknibddkjpaaDoor

/- Promise 3: free boards are positions. -/
set_option maxRecDepth 20000
namespace Go.Proofs.YtlefknibddkjpaaDoor
open Go Go.Ip Go.RowKit G

variable (g : Nat → PV) (lf n : Nat)

theorem alive_calls (N : Nat) (hN : 3 ≤ N) (h : PHeap) : CL g lf N fn_laws_alive [] h = some (.bool true, h) := by
  obtain ⟨n, rfl⟩ : ∃ n, N = n + 1 := ⟨N - 1, by omega⟩
  rw [laws_alive.call_eq]
  have b22 : boardB 2 2 = true := by decide
  have b02 : boardB 0 2 = false := by decide
  have e1 := boardOk_N g lf n (by omega) h 2 2
  have e2 := boardOk_N g lf n (by omega) h 0 2
  rw [b22] at e1
  rw [b02] at e2
  unfold laws_alive.main
  exact bd e1 (bd (want_bool (x := true) (y := true)) (bd e2 (bd (want_bool (x := true) (y := true)) (bd (v := (PV.bool true, h)) rfl (bd (v := PV.bool true) rfl (bd res_bool rfl))))))

end Go.Proofs.YtlefknibddkjpaaDoor

/- Promise 5: turned by half a turn twice it is as before. -/
set_option maxRecDepth 20000
namespace Go.Proofs.YtlefknibddkjpaaDoor
open Go Go.Ip Go.RowKit G

variable (g : Nat → PV) (lf n : Nat)

/-! ### sameInts: are two lists equal? -/
theorem sameInts_loop {xs ys : List Int} {p q : PV} {h : PHeap} (hp : IntSl .i64 h p xs) (hq : IntSl .i64 h q ys) (hxy : xs.length = ys.length) (hl : xs.length ≤ 2 ^ 36) : ∀ (m i fuel : Nat), i + m = xs.length → m < fuel →
    loopK (ev ((env g lf n).cx Tryd.prog laws_sameInts.kl) laws_sameInts.lp0) fuel (laws_sameInts.st0 p q (.int .i64 i) h) (laws_sameInts.K0 (env g lf n) (kTop Tryd.prog Tryd.f14)) = some (.bool (decide (xs.drop i = ys.drop i)), h)
  | 0, i, fuel, him, hf => by
    obtain ⟨f, rfl⟩ : ∃ f, fuel = f + 1 := ⟨fuel - 1, by omega⟩
    rw [loopK_succ, laws_sameInts.body0_eq]
    have hlt : ¬ ((i : Int) < (xs.length : Int)) := by omega
    have hd : xs.drop i = ys.drop i := by rw [List.drop_eq_nil_of_le (by omega), List.drop_eq_nil_of_le (by omega)]
    simp [laws_sameInts.body0, hp.len', hlt, laws_sameInts.after0_se0_0_1_5_14, hd]
  | m + 1, i, fuel, him, hf => by
    obtain ⟨f, rfl⟩ : ∃ f, fuel = f + 1 := ⟨fuel - 1, by omega⟩
    have hi : i < xs.length := by omega
    have hi' : i < ys.length := by omega
    obtain ⟨a, ha, hla⟩ := hp.at' hi
    obtain ⟨b, hb, hlb⟩ := hq.at' hi'
    have ih := sameInts_loop hp hq hxy hl m (i + 1) f (by omega) (by omega)
    have hlt : (i : Int) < (xs.length : Int) := by omega
    rw [loopK_succ, laws_sameInts.body0_eq]
    have hdx : xs.drop i = xs[i] :: xs.drop (i + 1) := List.drop_eq_getElem_cons hi
    have hdy : ys.drop i = ys[i] :: ys.drop (i + 1) := List.drop_eq_getElem_cons hi'
    by_cases he : xs[i] = ys[i]
    · have hne : (xs[i] != ys[i]) = false := by simp [he]
      simp only [laws_sameInts.body0, env_len, env_bin, env_indexAddr, env_load, hp.len', bin_lss, hlt, decide_true, Option.bind_some, cond_bool, cond_true, ha, hla, hb, hlb, bin_neq, hne, cond_false, bin_add, nx (show i < 2 ^ 40 by omega), kLoop_normal, ih]
      rw [hdx, hdy, he]
      simp only [List.cons.injEq, true_and]
    · have hne : (xs[i] != ys[i]) = true := by simp [he]
      simp only [laws_sameInts.body0, env_len, env_bin, env_indexAddr, env_load, hp.len', bin_lss, hlt, decide_true, Option.bind_some, cond_bool, cond_true, ha, hla, hb, hlb, bin_neq, hne, kLoop_ret, laws_sameInts.K0_ret, laws_sameInts.top_sr_4, res_bool, Option.bind_some]
      rw [hdx, hdy]
      simp only [List.cons.injEq, he, false_and, decide_false]

theorem sameInts_N {xs ys : List Int} {p q : PV} {h : PHeap} (N : Nat) (hN : 1 ≤ N) (hp : IntSl .i64 h p xs) (hq : IntSl .i64 h q ys) (hl : xs.length ≤ 2 ^ 36) (hf : xs.length < lf) :
    CL g lf N fn_laws_sameInts [p, q] h = some (.bool (decide (xs = ys)), h) := by
  obtain ⟨n, rfl⟩ : ∃ n, N = n + 1 := ⟨N - 1, by omega⟩
  rw [laws_sameInts.call_eq]
  by_cases hxy : xs.length = ys.length
  · have := sameInts_loop g lf n hp hq hxy hl xs.length 0 lf (by omega) hf
    simp only [laws_sameInts.main, env_len, env_bin, env_lf, hp.len', hq.len', Option.bind_some, bin_neq, hxy, bne_self_eq_false, cond_bool, cond_false]
    simpa using this
  · have hne : ((xs.length : Int) != (ys.length : Int)) = true := by simp; omega
    have hd : ¬ xs = ys := fun e => hxy (by rw [e])
    simp [laws_sameInts.main, hp.len', hq.len', hne, hd]

end Go.Proofs.YtlefknibddkjpaaDoor

/- Promise 4: each cell is of one kind. -/
set_option maxRecDepth 20000
namespace Go.Proofs.YtlefknibddkjpaaDoor
open Go Go.Ip Go.RowKit G

variable (g : Nat → PV) (lf n : Nat)

/-! ### what is listed -/
/-! ### ascend -/
theorem asc_loop {L : List Int} {p : PV} {h : PHeap} (hp : IntSl .i64 h p L) (hs : ∀ i (hi : i + 1 < L.length), L[i] < L[i + 1]) (hl : L.length ≤ 2 ^ 36) : ∀ (m j fuel : Nat), L.length ≤ j + 1 + m → j ≤ 2 ^ 36 → m < fuel →
    loopK (ev ((env g lf n).cx Tryd.prog laws_ascend.kl) laws_ascend.lp0) fuel (laws_ascend.st0 p (.int .i64 ((j + 1 : Nat) : Int)) h) (laws_ascend.K0 (env g lf n) (kTop Tryd.prog Tryd.f18)) = some (.bool true, h) := by
  intro m
  induction m with
  | zero =>
    intro j fuel hj hj2 hf
    obtain ⟨f, rfl⟩ : ∃ f, fuel = f + 1 := ⟨fuel - 1, by omega⟩
    rw [loopK_succ, laws_ascend.body0_eq]
    have f1 : binP Tryd.prog .lss 3 (.int .i64 ((j + 1 : Nat) : Int)) (.int .i64 (L.length : Int)) = some (.bool false) := by rw [bin_lss, decide_eq_false (by omega)]
    unfold laws_ascend.body0
    refine bd hp.len' (bd f1 (cdF ?_))
    show laws_ascend.K0 (env g lf n) _ (.exit 0) _ = _
    rw [laws_ascend.after0_se0_0_3_7]
    exact bd res_bool rfl
  | succ m ih =>
    intro j fuel hj hj2 hf
    obtain ⟨f, rfl⟩ : ∃ f, fuel = f + 1 := ⟨fuel - 1, by omega⟩
    rw [loopK_succ, laws_ascend.body0_eq]
    unfold laws_ascend.body0
    by_cases hlt : j + 1 < L.length
    · have f1 : binP Tryd.prog .lss 3 (.int .i64 ((j + 1 : Nat) : Int)) (.int .i64 (L.length : Int)) = some (.bool true) := by rw [bin_lss, decide_eq_true (by omega)]
      have f2 : binP Tryd.prog .sub 3 (.int .i64 ((j + 1 : Nat) : Int)) (.int .i64 1) = some (.int .i64 (j : Int)) := by rw [bin_sub, show (((j + 1 : Nat) : Int) - 1) = (j : Int) by omega, wr (by omega)]
      have f3 : binP Tryd.prog .add 3 (.int .i64 ((j + 1 : Nat) : Int)) (.int .i64 1) = some (.int .i64 ((j + 1 + 1 : Nat) : Int)) := by rw [bin_add, nx (by omega)]
      obtain ⟨a, ha, hla⟩ := hp.at' (show j < L.length by omega)
      obtain ⟨b, hb, hlb⟩ := hp.at' hlt
      have hlt' := hs j hlt
      have f4 : binP Tryd.prog .geq 3 (.int .i64 L[j]) (.int .i64 L[j + 1]) = some (.bool false) := by rw [bin_geq, decide_eq_false (by omega)]
      exact bd hp.len' (bd f1 (cdT (bd f2 (bd ha (bd hla (bd hb (bd hlb (bd f4 (cdF (bd f3 (ih (j + 1) f (by omega) (by omega) (by omega))))))))))))
    · have f1 : binP Tryd.prog .lss 3 (.int .i64 ((j + 1 : Nat) : Int)) (.int .i64 (L.length : Int)) = some (.bool false) := by rw [bin_lss, decide_eq_false (by omega)]
      refine bd hp.len' (bd f1 (cdF ?_))
      show laws_ascend.K0 (env g lf n) _ (.exit 0) _ = _
      rw [laws_ascend.after0_se0_0_3_7]
      exact bd res_bool rfl

theorem ascend_calls {L : List Int} {p : PV} {h : PHeap} (N : Nat) (hN : 1 ≤ N) (hp : IntSl .i64 h p L) (hs : ∀ i (hi : i + 1 < L.length), L[i] < L[i + 1]) (hl : L.length ≤ 2 ^ 36) (hf : L.length < lf) :
    CL g lf N fn_laws_ascend [p] h = some (.bool true, h) := by
  obtain ⟨n, rfl⟩ : ∃ n, N = n + 1 := ⟨N - 1, by omega⟩
  rw [laws_ascend.call_eq]
  exact asc_loop g lf n hp hs hl L.length 0 lf (by omega) (by omega) hf

/-! ### the law's own loops -/
end Go.Proofs.YtlefknibddkjpaaDoor

/- What both functions that mirror a position compute, and the exact law on them. -/
set_option maxRecDepth 20000
namespace Go.Proofs.YtlefknibddkjpaaDoor
open Go Go.Ip Go.RowKit G

variable (g : Nat → PV) (lf n : Nat)

/-- Where the mirrored position's cell k comes from: of a board of R rows and C columns. -/
def sig (R C k : Nat) : Nat := k % R * C + k / R
/-- A board's sides, as numbers. -/
def Sides (r c : Int) (R C : Nat) (xs : List Int) : Prop := r = (R : Int) ∧ c = (C : Int) ∧ 1 ≤ R ∧ R ≤ 4 ∧ 1 ≤ C ∧ C ≤ 4 ∧ R * C ≤ 9 ∧ xs.length = R * C ∧ xs.all contentB = true

theorem f_rem (i R : Nat) (hR : 1 ≤ R) : binP Tryd.prog .rem 3 (.int .i64 (i : Int)) (.int .i64 (R : Int)) = some (.int .i64 ((i % R : Nat) : Int)) := by
  rw [bin_rem (show (R : Int) ≠ 0 by omega)]; rfl
theorem f_add (a b : Nat) (h : a + b ≤ 1000) : binP Tryd.prog .add 3 (.int .i64 (a : Int)) (.int .i64 (b : Int)) = some (.int .i64 ((a + b : Nat) : Int)) := by
  rw [bin_add, ← Int.natCast_add, wr (by omega)]

end Go.Proofs.YtlefknibddkjpaaDoor

/- The neighbours of a cell: the program's loop over its table of steps, the model's two loops, and the exact law. -/
set_option maxRecDepth 20000
namespace Go.Proofs.YtlefknibddkjpaaDoor
open Go Go.Ip G

/-! ### the table of steps -/
def steps : List (Int × Int) := [(-1, 0), (-1, 1), (0, -1), (0, 1), (1, -1), (1, 0)]
def tab64N : List Nat := [0, 1, 56, 2, 57, 49, 28, 3, 61, 58, 42, 50, 38, 29, 17, 4, 62, 47, 59, 36, 45, 43, 51, 22, 53, 39, 33, 30, 24, 18, 12, 5, 63, 55, 48, 27, 60, 41, 37, 16, 46, 35, 44, 21, 52, 32, 23, 11, 54, 26, 40, 15, 34, 20, 31, 10, 25, 14, 19, 9, 13, 8, 7, 6]
def tab64Cells : List PV := tab64N.map fun n : Nat => .int .u8 (n : Int)
/-- Where the library's table of 64 bytes is known to lie, it reads so. -/
def Tab64 (g : Nat → PV) (h : PHeap) : Prop := ∀ id, g 2 = .ptr id 0 → h[id]? = some (.ro 1 tab64Cells)
theorem Tab64.keep {g : Nat → PV} {h h' : PHeap} (t : Tab64 g h) (k : Keep h.length h h') : Tab64 g h' := fun id e => by have ho := t id e; rw [k.2 id (List.getElem?_eq_some_iff.1 ho).1]; exact ho

theorem tyTabAgg : isAggT Tryd.prog 50 = some true := by kernel_rfl
theorem tyTabSize : sizeT Tryd.prog 50 = some 12 := by kernel_rfl
theorem tyPairZ : zeroCellsT Tryd.prog 49 = some [.int .i64 0, .int .i64 0] := by kernel_rfl
theorem tyPairSize : sizeT Tryd.prog 49 = some 2 := by kernel_rfl
theorem tyPairU : Tryd.prog.underlying 49 = some (.array 2 3) := by kernel_rfl

theorem pair_alloc (h : PHeap) : allocP Tryd.prog 49 h = some (.ptr h.length 0, h ++ [.own 1 [.int .i64 0, .int .i64 0]]) := by simp [allocP, tyPairZ]
theorem pair_addr0 (id : Nat) : indexAddrP Tryd.prog 49 (.ptr id 0) (.int .i64 0) = some (.ptr id 0) := by simp [indexAddrP, tySize]
theorem pair_addr1 (id : Nat) : indexAddrP Tryd.prog 49 (.ptr id 0) (.int .i64 1) = some (.ptr id 1) := by simp [indexAddrP, tySize]
/-! ### what is meant -/
def rowAt (C k : Nat) (s : Int × Int) : Int := ((k / C : Nat) : Int) + s.1
def colAt (C k : Nat) (s : Int × Int) : Int := ((k % C : Nat) : Int) + s.2
def inB (R C k : Nat) (s : Int × Int) : Bool := decide (0 ≤ rowAt C k s) && decide (rowAt C k s < R) && decide (0 ≤ colAt C k s) && decide (colAt C k s < C)
def nearFrom (R C k : Nat) (ss : List (Int × Int)) : List Int := (ss.filter (inB R C k)).map fun s => rowAt C k s * C + colAt C k s
def nearN (R C k : Nat) : List Int := nearFrom R C k steps
/-- An operation under a guard. -/
theorem gd {α β : Type} {b t : Bool} {x y : Option α} {f : α → Option β} {r : Option β} (hb : b = t) (hx : x.bind f = r) : ((wantV (.bool b) t).bind fun v => (bif v then x else y).bind f) = r := by
  subst hb; simpa using hx
variable (g : Nat → PV) (lf n : Nat)

/-! ### the program -/
end Go.Proofs.YtlefknibddkjpaaDoor

/- The model's neighbours, 'is a number in a list', and the exact law on neighbours. -/
set_option maxRecDepth 20000
namespace Go.Proofs.YtlefknibddkjpaaDoor
open Go Go.Ip G

variable (g : Nat → PV) (lf n : Nat)

theorem l1In_N (N : Nat) (hN : 1 ≤ N) (h : PHeap) (a lo hi : Int) : CL g lf N fn_spec_l1In [.int .i64 a, .int .i64 lo, .int .i64 hi] h = some (.bool (decide (lo ≤ a ∧ a ≤ hi)), h) := by
  obtain ⟨n, rfl⟩ : ∃ n, N = n + 1 := ⟨N - 1, by omega⟩
  exact l1In_calls g lf n h a lo hi

/-! ### hasInt -/
theorem has_loop {xs : List Int} {p : PV} {h : PHeap} (x : Int) (hp : IntSl .i64 h p xs) (hl : xs.length ≤ 2 ^ 36) : ∀ (m i fuel : Nat), i + m = xs.length → m < fuel →
    loopK (ev ((env g lf n).cx Tryd.prog laws_hasInt.kl) laws_hasInt.lp0) fuel (laws_hasInt.st0 p (.int .i64 x) (.int .i64 (i : Int)) h) (laws_hasInt.K0 (env g lf n) (kTop Tryd.prog Tryd.f16)) = some (.bool (decide (x ∈ xs.drop i)), h)
  | 0, i, fuel, him, hf => by
    obtain ⟨f, rfl⟩ : ∃ f, fuel = f + 1 := ⟨fuel - 1, by omega⟩
    rw [loopK_succ, laws_hasInt.body0_eq]
    have f1 : binP Tryd.prog .lss 3 (.int .i64 (i : Int)) (.int .i64 (xs.length : Int)) = some (.bool false) := by rw [bin_lss, decide_eq_false (by omega)]
    have hd : xs.drop i = [] := List.drop_eq_nil_of_le (by omega)
    unfold laws_hasInt.body0
    refine bd hp.len' (bd f1 (cdF ?_))
    rw [kLoop_exit, laws_hasInt.after0_se0_0_1_5_9, hd]
    exact bd res_bool rfl
  | m + 1, i, fuel, him, hf => by
    obtain ⟨f, rfl⟩ : ∃ f, fuel = f + 1 := ⟨fuel - 1, by omega⟩
    have hi : i < xs.length := by omega
    obtain ⟨a, ha, hla⟩ := hp.at' hi
    have ih := has_loop x hp hl m (i + 1) f (by omega) (by omega)
    rw [loopK_succ, laws_hasInt.body0_eq]
    have f1 : binP Tryd.prog .lss 3 (.int .i64 (i : Int)) (.int .i64 (xs.length : Int)) = some (.bool true) := by rw [bin_lss, decide_eq_true (by omega)]
    have f2 : binP Tryd.prog .eql 3 (.int .i64 xs[i]) (.int .i64 x) = some (.bool (xs[i] == x)) := bin_eql
    have f3 : binP Tryd.prog .add 3 (.int .i64 (i : Int)) (.int .i64 1) = some (.int .i64 ((i + 1 : Nat) : Int)) := by rw [bin_add, nx (by omega)]
    have hdx : xs.drop i = xs[i] :: xs.drop (i + 1) := List.drop_eq_getElem_cons hi
    unfold laws_hasInt.body0
    refine bd hp.len' (bd f1 (cdT (bd ha (bd hla (bd f2 ?_)))))
    by_cases he : xs[i] = x
    · rw [show (xs[i] == x) = true by simp [he]]
      refine cdT ?_
      rw [kLoop_ret, laws_hasInt.K0_ret, laws_hasInt.top_sr_4, hdx, he]
      exact bd res_bool (by simp)
    · rw [show (xs[i] == x) = false by simp [he]]
      refine cdF (bd f3 ?_)
      rw [kLoop_normal, ih, hdx]
      congr 3
      apply decide_eq_decide.2
      rw [List.mem_cons]
      exact ⟨.inr, fun h => h.elim (fun e => absurd e.symm he) id⟩

theorem hasInt_N (N : Nat) (hN : 1 ≤ N) {xs : List Int} {p : PV} {h : PHeap} (x : Int) (hp : IntSl .i64 h p xs) (hl : xs.length ≤ 2 ^ 36) (hf : xs.length < lf) :
    CL g lf N fn_laws_hasInt [p, .int .i64 x] h = some (.bool (decide (x ∈ xs)), h) := by
  obtain ⟨n, rfl⟩ : ∃ n, N = n + 1 := ⟨N - 1, by omega⟩
  rw [laws_hasInt.call_eq]
  have := has_loop g lf n x hp hl xs.length 0 lf (by omega) hf
  unfold laws_hasInt.main
  rw [List.drop_zero] at this
  exact this

/-! ### the exact law -/
theorem eqIntS_N {xs ys : List Int} {p q : PV} {h : PHeap} (N : Nat) (hN : 1 ≤ N) (hp : IntSl .i64 h p xs) (hq : IntSl .i64 h q ys) (hl : xs.length ≤ 2 ^ 36) (hf : xs.length < lf) :
    CL g lf N fn_laws_eqIntS [p, q] h = some (.bool (decide (xs = ys)), h) := by
  obtain ⟨n, rfl⟩ : ∃ n, N = n + 1 := ⟨N - 1, by omega⟩
  exact eqIntS_calls g lf n hp hq hl hf

end Go.Proofs.YtlefknibddkjpaaDoor

/- Promises 2 and 8: neighbours are so both ways; all neighbours are counted by rows and columns. -/
set_option maxRecDepth 20000
namespace Go.Proofs.YtlefknibddkjpaaDoor
open Go Go.Ip G

/-! ### of all cells of all boards -/
variable (g : Nat → PV) (lf n : Nat)

/-! ### promise 8 -/
end Go.Proofs.YtlefknibddkjpaaDoor

/- Promise 7 and the exact law on it: how far cells are from each other. -/
set_option maxRecDepth 20000
namespace Go.Proofs.YtlefknibddkjpaaDoor
open Go Go.Ip G

/-! ### sets of cells as numbers -/
theorem f_shr (a i : Nat) (hi : i ≤ 60) : binP Tryd.prog .shr 3 (.int .i64 (a : Int)) (.int .i64 (i : Int)) = some (.int .i64 ((a >>> i : Nat) : Int)) := by
  have h0 : ¬ ((i : Int) < 0) := by omega
  have hm : min ((i : Int).toNat) (IntKind.i64.bits) = i := by
    have : IntKind.i64.bits = 64 := rfl
    rw [this]; omega
  simp only [binP, shI, if_neg h0, hm]
  congr 2
  rw [Nat.shiftRight_eq_div_pow]
  have : ((2 : Int) ^ i) = ((2 ^ i : Nat) : Int) := by simp
  rw [this, ← Int.ofNat_fdiv]

theorem f_shl (i : Nat) (hi : i ≤ 30) : binP Tryd.prog .shl 3 (.int .i64 1) (.int .i64 (i : Int)) = some (.int .i64 ((1 <<< i : Nat) : Int)) := by
  have h0 : ¬ ((i : Int) < 0) := by omega
  have hm : min ((i : Int).toNat) (IntKind.i64.bits) = i := by
    have : IntKind.i64.bits = 64 := rfl
    rw [this]; omega
  simp only [binP, shI, if_neg h0, hm]
  congr 2
  rw [Nat.one_shiftLeft]
  have : ((2 : Int) ^ i) = ((2 ^ i : Nat) : Int) := by simp
  rw [Int.one_mul, this]
  have hle : 2 ^ i ≤ 2 ^ 30 := Nat.pow_le_pow_right (by decide) hi
  obtain ⟨z, hz⟩ : ∃ z : Nat, z = 2 ^ i := ⟨_, rfl⟩
  rw [← hz] at hle ⊢
  exact wr (by omega)

theorem natEq (y k : Nat) : ((y : Int) == (k : Int)) = decide (y = k) := by rw [Bool.eq_iff_iff, beq_iff_eq, decide_eq_true_iff, Int.ofNat_inj]

theorem f_and {a b : Nat} (ha : a < 2 ^ 62) (hb : b < 2 ^ 62) : binP Tryd.prog .and 3 (.int .i64 (a : Int)) (.int .i64 (b : Int)) = some (.int .i64 ((a &&& b : Nat) : Int)) := by
  have hz : a &&& b < 2 ^ 62 := Nat.and_lt_two_pow a hb
  have e : (BitVec.ofInt IntKind.i64.bits (a : Int) &&& BitVec.ofInt IntKind.i64.bits (b : Int)).toNat = a &&& b := by
    have hbits : IntKind.i64.bits = 64 := rfl
    rw [BitVec.toNat_and, BitVec.toNat_ofInt, BitVec.toNat_ofInt, hbits]
    congr 1 <;> omega
  have : binP Tryd.prog .and 3 (.int .i64 (a : Int)) (.int .i64 (b : Int)) = some (.int .i64 (IntKind.i64.wrap ((BitVec.ofInt IntKind.i64.bits (a : Int) &&& BitVec.ofInt IntKind.i64.bits (b : Int)).toNat : Int))) := by simp only [binP, binI, if_true]
  rw [this, e, wr (by omega)]

theorem f_or {a b : Nat} (ha : a < 2 ^ 62) (hb : b < 2 ^ 62) : binP Tryd.prog .or 3 (.int .i64 (a : Int)) (.int .i64 (b : Int)) = some (.int .i64 ((a ||| b : Nat) : Int)) := by
  have hz : a ||| b < 2 ^ 62 := Nat.or_lt_two_pow ha hb
  have e : (BitVec.ofInt IntKind.i64.bits (a : Int) ||| BitVec.ofInt IntKind.i64.bits (b : Int)).toNat = a ||| b := by
    have hbits : IntKind.i64.bits = 64 := rfl
    rw [BitVec.toNat_or, BitVec.toNat_ofInt, BitVec.toNat_ofInt, hbits]
    congr 1 <;> omega
  have : binP Tryd.prog .or 3 (.int .i64 (a : Int)) (.int .i64 (b : Int)) = some (.int .i64 (IntKind.i64.wrap ((BitVec.ofInt IntKind.i64.bits (a : Int) ||| BitVec.ofInt IntKind.i64.bits (b : Int)).toNat : Int))) := by simp only [binP, binI, if_true]
  rw [this, e, wr (by omega)]

def orAll (w : Nat) : List Int → Nat
  | [] => w
  | e :: l => orAll (w ||| (1 <<< e.toNat)) l
/-! ### what the model says -/
variable (g : Nat → PV) (lf n : Nat)

/-! ### the program -/
theorem f_sub (a b : Int) (h : -1000 ≤ a - b ∧ a - b ≤ 1000) : binP Tryd.prog .sub 3 (.int .i64 a) (.int .i64 b) = some (.int .i64 (a - b)) := by rw [bin_sub, wr (by omega)]
end Go.Proofs.YtlefknibddkjpaaDoor

/- Sets of cells as bits: what grows, what is reached, and at what cost. No program text. -/
set_option maxRecDepth 20000
namespace Go.Proofs.YtlefknibddkjpaaDoor

theorem bit_iff (x k : Nat) : x >>> k % 2 = 1 ↔ x.testBit k = true := by
  rw [Nat.testBit_eq_decide_div_mod_eq, Nat.shiftRight_eq_div_pow, decide_eq_true_iff]

/-- Cell j is beside cell k: the masks tell the neighbours of each cell. -/
def Adj (M : List Nat) (k j : Nat) : Prop := (M.getD k 0).testBit j = true

inductive Reach (M : List Nat) (set fr : Nat) : Nat → Prop
  | start {j} (h : fr.testBit j = true) (hs : set.testBit j = true) : Reach M set fr j
  | step {k j} (h : Reach M set fr k) (ha : Adj M k j) (hs : set.testBit j = true) : Reach M set fr j

theorem Reach.inSet {M : List Nat} {set fr j : Nat} (h : Reach M set fr j) : set.testBit j = true := by
  cases h <;> assumption

theorem Reach.mono {M : List Nat} {set fr set' fr' : Nat} (hs : ∀ j, set.testBit j = true → set'.testBit j = true) (hf : ∀ j, fr.testBit j = true → fr'.testBit j = true) {j : Nat} (h : Reach M set fr j) : Reach M set' fr' j := by
  induction h with
  | start h h' => exact .start (hf _ h) (hs _ h')
  | step _ ha h' ih => exact .step ih ha (hs _ h')

theorem Reach.trans {M : List Nat} {set fr fr' : Nat} (hf : ∀ j, fr'.testBit j = true → Reach M set fr j) {j : Nat} (h : Reach M set fr' j) : Reach M set fr j := by
  induction h with
  | start h _ => exact hf _ h
  | step _ ha h' ih => exact .step ih ha h'

theorem one_bit (k j : Nat) : (1 <<< k).testBit j = decide (j = k) := by
  rw [Nat.one_shiftLeft, Nat.testBit_two_pow]
  by_cases h : j = k
  · subst h; simp
  · simp [h]; exact fun e => h e.symm

/-- From one cell to another, and back. -/
theorem Reach.back {M : List Nat} (sym : ∀ k j, Adj M k j → Adj M j k) {set a b : Nat} (ha : set.testBit a = true) (h : Reach M set (1 <<< a) b) : Reach M set (1 <<< b) a := by
  induction h with
  | @start j h _ =>
    rw [one_bit] at h
    have : j = a := of_decide_eq_true h
    subst this
    exact .start (by rw [one_bit]; simp) ha
  | @step k j _ hk hj ih =>
    refine ih.trans fun i hi => ?_
    rw [one_bit] at hi
    have : i = k := of_decide_eq_true hi
    subst this
    rename_i hk'
    exact .step (.start (by rw [one_bit]; simp) hj) (sym _ _ hk) hk'.inSet

/-! ### growing -/
def stepFrom (set now : Nat) : Nat → List Nat → Nat → Nat
  | _, [], nx => nx
  | k, m :: ms, nx => stepFrom set now (k + 1) ms (if now >>> k % 2 = 1 then nx ||| (m &&& set) else nx)

theorem stepFrom_le (set now : Nat) : ∀ (ms : List Nat) (k nx : Nat), nx ≤ stepFrom set now k ms nx
  | [], _, _ => Nat.le_refl _
  | m :: ms, k, nx => by
    rw [stepFrom]
    refine Nat.le_trans ?_ (stepFrom_le set now ms (k + 1) _)
    split
    · exact Nat.left_le_or
    · exact Nat.le_refl _

theorem stepFrom_bit (set now : Nat) (j : Nat) : ∀ (ms : List Nat) (k nx : Nat), (stepFrom set now k ms nx).testBit j = true ↔ nx.testBit j = true ∨ ∃ i, now.testBit (k + i) = true ∧ (ms.getD i 0).testBit j = true ∧ set.testBit j = true
  | [], k, nx => by simp [stepFrom]
  | m :: ms, k, nx => by
    rw [stepFrom, stepFrom_bit set now j ms (k + 1)]
    have hsplit : (∃ i, now.testBit (k + i) = true ∧ ((m :: ms).getD i 0).testBit j = true ∧ set.testBit j = true) ↔ (now.testBit k = true ∧ m.testBit j = true ∧ set.testBit j = true) ∨ ∃ i, now.testBit (k + 1 + i) = true ∧ (ms.getD i 0).testBit j = true ∧ set.testBit j = true := by
      constructor
      · rintro ⟨i, h⟩
        cases i with
        | zero => exact .inl (by simpa using h)
        | succ i => exact .inr ⟨i, by rw [show k + 1 + i = k + (i + 1) by omega]; simpa using h⟩
      · rintro (h | ⟨i, h⟩)
        · exact ⟨0, by simpa using h⟩
        · exact ⟨i + 1, by rw [show k + (i + 1) = k + 1 + i by omega]; simpa using h⟩
    rw [hsplit]
    by_cases hb : now >>> k % 2 = 1
    · rw [if_pos hb, Nat.testBit_or, Nat.testBit_and]
      have hb' := (bit_iff now k).1 hb
      simp [hb', or_assoc]
    · rw [if_neg hb]
      have hb' : ¬ now.testBit k = true := fun h => hb ((bit_iff now k).2 h)
      simp [hb']

def growF (M : List Nat) (set : Nat) : Nat → Nat → Nat
  | 0, now => now
  | f + 1, now => if stepFrom set now 0 M now = now then now else growF M set f (stepFrom set now 0 M now)
def growN (M : List Nat) (set fr : Nat) : Nat := growF M set 600 (fr &&& set)

theorem sub_and {a b : Nat} (h : ∀ j, a.testBit j = true → b.testBit j = true) : a &&& b = a := by
  apply Nat.eq_of_testBit_eq
  intro j
  rw [Nat.testBit_and]
  cases e : a.testBit j with
  | false => rfl
  | true => rw [h j e]; rfl

theorem sub_le {a b : Nat} (h : ∀ j, a.testBit j = true → b.testBit j = true) : a ≤ b := by
  rw [← sub_and h]; exact Nat.and_le_right

theorem step_sub {M : List Nat} {set now : Nat} (h : ∀ j, now.testBit j = true → set.testBit j = true) : ∀ j, (stepFrom set now 0 M now).testBit j = true → set.testBit j = true := by
  intro j hj
  rcases (stepFrom_bit set now j M 0 now).1 hj with hj | ⟨_, _, _, hj⟩
  · exact h j hj
  · exact hj

/-! ### at what cost -/
/-- Cell j is reached from the edge over own cells and at most k free ones. -/
inductive Cost (M : List Nat) (edge own free : Nat) : Nat → Nat → Prop
  | ownEdge {k j} (h : edge.testBit j = true) (ho : own.testBit j = true) : Cost M edge own free k j
  | freeEdge {k j} (h : edge.testBit j = true) (hf : free.testBit j = true) : Cost M edge own free (k + 1) j
  | ownStep {k i j} (h : Cost M edge own free k i) (ha : Adj M i j) (ho : own.testBit j = true) : Cost M edge own free k j
  | freeStep {k i j} (h : Cost M edge own free k i) (ha : Adj M i j) (hf : free.testBit j = true) : Cost M edge own free (k + 1) j

theorem Cost.more {M : List Nat} {edge own free k j : Nat} (h : Cost M edge own free k j) : Cost M edge own free (k + 1) j := by
  induction h with
  | ownEdge h ho => exact .ownEdge h ho
  | freeEdge h hf => exact .freeEdge h hf
  | ownStep _ ha ho ih => exact .ownStep ih ha ho
  | freeStep _ ha hf ih => exact .freeStep ih ha hf

/-- Own cells more, free cells that are now own: no dearer. -/
theorem Cost.mono {M : List Nat} {edge own free own' free' : Nat} (ho : ∀ j, own.testBit j = true → own'.testBit j = true) (hf : ∀ j, free.testBit j = true → own'.testBit j = true ∨ free'.testBit j = true) {k j : Nat} (h : Cost M edge own free k j) : Cost M edge own' free' k j := by
  induction h with
  | ownEdge h h' => exact .ownEdge h (ho _ h')
  | freeEdge h h' =>
    rcases hf _ h' with h' | h'
    · exact .ownEdge h h'
    · exact .freeEdge h h'
  | ownStep _ ha h' ih => exact .ownStep ih ha (ho _ h')
  | freeStep _ ha h' ih =>
    rcases hf _ h' with h' | h'
    · exact (Cost.ownStep ih ha h').more
    · exact .freeStep ih ha h'

/-- What is dear by one more is so by some free cell: with that one own it is not. -/
theorem Cost.cell {M : List Nat} {edge own free k j : Nat} (h : Cost M edge own free (k + 1) j) :
    Cost M edge own free k j ∨ ∃ c, free.testBit c = true ∧ ∀ own' free', (∀ j, own.testBit j = true → own'.testBit j = true) → own'.testBit c = true → (∀ j, free.testBit j = true → own'.testBit j = true ∨ free'.testBit j = true) → Cost M edge own' free' k j := by
  generalize hk : k + 1 = k' at h
  induction h generalizing k with
  | ownEdge h h' => exact .inl (.ownEdge h h')
  | @freeEdge k0 j h h' => exact .inr ⟨j, h', fun own' free' _ hc _ => .ownEdge h hc⟩
  | ownStep _ ha h' ih =>
    rcases ih hk with ih | ⟨c, hc, ih⟩
    · exact .inl (.ownStep ih ha h')
    · exact .inr ⟨c, hc, fun own' free' ho hoc hf => .ownStep (ih own' free' ho hoc hf) ha (ho _ h')⟩
  | @freeStep k0 i j h0 ha h' _ =>
    obtain rfl : k = k0 := by omega
    exact .inr ⟨j, h', fun own' free' ho hoc hf => .ownStep (h0.mono ho hf) ha hoc⟩

end Go.Proofs.YtlefknibddkjpaaDoor

/- Gaps: waves of cost tell the least number of free cells. No program text. -/
set_option maxRecDepth 20000
namespace Go.Proofs.YtlefknibddkjpaaDoor

/-- The last side is reached at cost k. -/
def Hits (M : List Nat) (own free edge last k : Nat) : Prop := ∃ j, last.testBit j = true ∧ Cost M edge own free k j
def IsGap (M : List Nat) (own free edge last k : Nat) : Prop := Hits M own free edge last k ∧ ∀ i, i < k → ¬ Hits M own free edge last i

theorem IsGap.unique {M : List Nat} {own free edge last k k' : Nat} (h : IsGap M own free edge last k) (h' : IsGap M own free edge last k') : k = k' := by
  rcases Nat.lt_trichotomy k k' with hlt | e | hgt
  · exact absurd h.1 (h'.2 k hlt)
  · exact e
  · exact absurd h'.1 (h.2 k' hgt)

theorem with_bit (x c j : Nat) : (x ||| (1 <<< c)).testBit j = (x.testBit j || decide (j = c)) := by rw [Nat.testBit_or, one_bit]

section
variable {M : List Nat} {own free edge last : Nat}

end

/-! ### how many -/
def pop (x : Nat) : Nat := (List.range 9).countP fun j => x.testBit j

theorem bit_small {x n j : Nat} (hx : x < 2 ^ n) (h : x.testBit j = true) : j < n := by
  rcases Nat.lt_or_ge j n with hlt | hge
  · exact hlt
  · rw [Nat.testBit_lt_two_pow (Nat.lt_of_lt_of_le hx (Nat.pow_le_pow_right (by decide) hge))] at h; cases h

/-! ### the waves -/
section
variable {M : List Nat} {own free edge last : Nat}

end

end Go.Proofs.YtlefknibddkjpaaDoor

/- The model's sets of cells: masks, sides, the cells with a stone, growing, and whether sides are joined. -/
set_option maxRecDepth 20000
namespace Go.Proofs.YtlefknibddkjpaaDoor
open Go Go.Ip G

def masksN (R C : Nat) : List Nat := (List.range (R * C)).map fun k => orAll 0 (nearN R C k)
def ints (M : List Nat) : List Int := M.map fun x : Nat => (x : Int)
theorem ints_length (M : List Nat) : (ints M).length = M.length := List.length_map ..
theorem ints_get {M : List Nat} {k : Nat} (hk : k < M.length) : (ints M)[k]'(by rw [ints_length]; exact hk) = ((M.getD k 0 : Nat) : Int) := by
  simp [ints, List.getD_eq_getElem?_getD, hk]

/-- A board, as numbers. -/
def BoardOf (R C : Nat) : Prop := 1 ≤ R ∧ R ≤ 4 ∧ 1 ≤ C ∧ C ≤ 4 ∧ R * C ≤ 9

variable (g : Nat → PV) (lf n : Nat)

/-! ### masks -/
/-! ### sides -/
def atSide (C P i : Nat) : Nat := if P = 2 then i % C else i / C
def endSide (R C P : Nat) : Nat := if P = 2 then C - 1 else R - 1
def sideFrom (R C P : Nat) (last : Bool) : Nat → Nat → Nat → Nat
  | 0, _, w => w
  | m + 1, i, w => sideFrom R C P last m (i + 1) (if (bif last then decide (atSide C P i = endSide R C P) else decide (atSide C P i = 0)) = true then w ||| (1 <<< i) else w)
def sideN (R C P : Nat) (last : Bool) : Nat := sideFrom R C P last (R * C) 0 0

/-! ### the cells with a stone -/
def setFrom (what : Int) : Nat → List Int → Nat → Nat
  | _, [], w => w
  | k, x :: xs, w => setFrom what (k + 1) xs (if x = what then w ||| (1 <<< k) else w)
def setL (xs : List Int) (what : Int) : Nat := setFrom what 0 xs 0

theorem setFrom_lt (what : Int) {n : Nat} : ∀ (xs : List Int) (k w : Nat), k + xs.length ≤ n → w < 2 ^ n → setFrom what k xs w < 2 ^ n
  | [], _, _, _, hw => hw
  | x :: xs, k, w, hk, hw => by
    rw [setFrom]
    rw [List.length_cons] at hk
    refine setFrom_lt what xs (k + 1) _ (by omega) ?_
    split
    · refine Nat.or_lt_two_pow hw ?_
      rw [Nat.one_shiftLeft]; exact Nat.pow_lt_pow_right (by decide) (by omega)
    · exact hw
theorem setL_lt (what : Int) {xs : List Int} {n : Nat} (h : xs.length ≤ n) : setL xs what < 2 ^ n := setFrom_lt what xs 0 0 (by omega) (Nat.two_pow_pos n)

theorem setFrom_bit (what : Int) (j : Nat) : ∀ (xs : List Int) (k w : Nat), (setFrom what k xs w).testBit j = true ↔ w.testBit j = true ∨ ∃ i, j = k + i ∧ xs[i]? = some what
  | [], k, w => by simp [setFrom]
  | x :: xs, k, w => by
    rw [setFrom, setFrom_bit what j xs (k + 1)]
    have hs : (∃ i, j = k + i ∧ (x :: xs)[i]? = some what) ↔ (j = k ∧ x = what) ∨ ∃ i, j = k + 1 + i ∧ xs[i]? = some what := by
      constructor
      · rintro ⟨i, h1, h2⟩
        cases i with
        | zero => exact .inl ⟨by omega, by simpa using h2⟩
        | succ i => exact .inr ⟨i, by omega, by simpa using h2⟩
      · rintro (⟨h1, h2⟩ | ⟨i, h1, h2⟩)
        · exact ⟨0, by omega, by simp [h2]⟩
        · exact ⟨i + 1, by omega, by simpa using h2⟩
    rw [hs]
    by_cases e : x = what
    · rw [if_pos e, Nat.testBit_or, one_bit, Bool.or_eq_true, decide_eq_true_iff]
      simp [e, or_assoc]
    · rw [if_neg e]; simp [e]

theorem setL_bit {xs : List Int} {what : Int} {j : Nat} : (setL xs what).testBit j = true ↔ xs[j]? = some what := by
  unfold setL
  rw [setFrom_bit]
  constructor
  · rintro (h | ⟨i, h1, h2⟩)
    · rw [Nat.zero_testBit] at h; cases h
    · rw [Nat.zero_add] at h1; subst h1; exact h2
  · intro h; exact .inr ⟨j, by omega, h⟩

theorem set_loop {xs : List Int} {p : PV} {h : PHeap} (what : Int) (hp : IntSl .i64 h p xs) (hl : xs.length ≤ 20) : ∀ (m i fuel w : Nat), i + m = xs.length → m < fuel → w < 2 ^ 30 →
    loopK (ev ((env g lf n).cx Tryd.prog spec_l2Set.kl) spec_l2Set.lp0) fuel (spec_l2Set.st0 p (.int .i64 what) (.int .i64 (w : Int)) (.int .i64 (i : Int)) h) (spec_l2Set.K0 (env g lf n) (kTop Tryd.prog Tryd.f53)) = some (.int .i64 (setFrom what i (xs.drop i) w : Int), h)
  | 0, i, fuel, w, him, hf, hw => by
    obtain ⟨f, rfl⟩ : ∃ f, fuel = f + 1 := ⟨fuel - 1, by omega⟩
    rw [loopK_succ, spec_l2Set.body0_eq]
    have f1 : binP Tryd.prog .lss 3 (.int .i64 (i : Int)) (.int .i64 (xs.length : Int)) = some (.bool false) := by rw [bin_lss, decide_eq_false (by omega)]
    unfold spec_l2Set.body0
    refine bd hp.len' (bd f1 (cdF ?_))
    rw [kLoop_exit, spec_l2Set.after0_se0_0_1_5_6_10, List.drop_eq_nil_of_le (by omega), setFrom]
    exact bd res_int rfl
  | m + 1, i, fuel, w, him, hf, hw => by
    obtain ⟨f, rfl⟩ : ∃ f, fuel = f + 1 := ⟨fuel - 1, by omega⟩
    have hi : i < xs.length := by omega
    obtain ⟨a, ha, hla⟩ := hp.at' hi
    have hdx : xs.drop i = xs[i] :: xs.drop (i + 1) := List.drop_eq_getElem_cons hi
    have f1 : binP Tryd.prog .lss 3 (.int .i64 (i : Int)) (.int .i64 (xs.length : Int)) = some (.bool true) := by rw [bin_lss, decide_eq_true (by omega)]
    have f2 : binP Tryd.prog .eql 3 (.int .i64 xs[i]) (.int .i64 what) = some (.bool (decide (xs[i] = what))) := by rw [bin_eql]; rfl
    have f4 : binP Tryd.prog .add 3 (.int .i64 (i : Int)) (.int .i64 1) = some (.int .i64 ((i + 1 : Nat) : Int)) := by rw [bin_add, nx (by omega)]
    have h30 : 1 <<< i < 2 ^ 30 := by rw [Nat.one_shiftLeft]; exact Nat.pow_lt_pow_right (by decide) (by omega)
    rw [loopK_succ, spec_l2Set.body0_eq, hdx, setFrom]
    unfold spec_l2Set.body0
    refine bd hp.len' (bd f1 (cdT (bd ha (bd hla (bd f2 ?_)))))
    by_cases e : xs[i] = what
    · rw [decide_eq_true e, if_pos e]
      refine cdT (bd (f_shl i (by omega)) (bd (f_or (a := w) (b := 1 <<< i) (by omega) (by omega)) (bd f4 ?_)))
      rw [kLoop_normal]
      exact set_loop what hp hl m (i + 1) f _ (by omega) (by omega) (Nat.or_lt_two_pow hw h30)
    · rw [decide_eq_false e, if_neg e]
      refine cdF (bd f4 ?_)
      rw [kLoop_normal]
      exact set_loop what hp hl m (i + 1) f _ (by omega) (by omega) hw

theorem l2Set_calls {xs : List Int} {p : PV} {h : PHeap} (what : Int) (hp : IntSl .i64 h p xs) (hl : xs.length ≤ 20) (N : Nat) (hN : 1 ≤ N) (hlf : 20 < lf) :
    CL g lf N fn_spec_l2Set [p, .int .i64 what] h = some (.int .i64 (setL xs what : Int), h) := by
  obtain ⟨n, rfl⟩ : ∃ n, N = n + 1 := ⟨N - 1, by omega⟩
  rw [spec_l2Set.call_eq]
  unfold spec_l2Set.main
  have := set_loop g lf n what hp hl xs.length 0 lf 0 (by omega) (by omega) (by decide)
  rw [List.drop_zero] at this
  exact this

/-! ### growing -/
theorem bitq (x k : Nat) (hk : k ≤ 20) : binP Tryd.prog .shr 3 (.int .i64 (x : Int)) (.int .i64 (k : Int)) = some (.int .i64 ((x >>> k : Nat) : Int)) ∧ binP Tryd.prog .rem 3 (.int .i64 ((x >>> k : Nat) : Int)) (.int .i64 2) = some (.int .i64 ((x >>> k % 2 : Nat) : Int)) ∧
    binP Tryd.prog .eql 3 (.int .i64 ((x >>> k % 2 : Nat) : Int)) (.int .i64 1) = some (.bool (decide (x >>> k % 2 = 1))) :=
  ⟨f_shr x k (by omega), f_rem (x >>> k) 2 (by decide), by rw [bin_eql]; exact congrArg (fun z => some (PV.bool z)) (natEq _ 1)⟩

def joinsN (R C P S : Nat) : Bool := !decide (growN (masksN R C) S (sideN R C P false) &&& sideN R C P true = 0)

end Go.Proofs.YtlefknibddkjpaaDoor

/- The model's chapter 2: what Joins, GroupOf, GapOf, Filled and GapCells of it compute. -/
set_option maxRecDepth 20000
namespace Go.Proofs.YtlefknibddkjpaaDoor
open Go Go.Ip G

def playerB (p : Int) : Bool := decide (1 ≤ p ∧ p ≤ 2)
def listFrom (set : Nat) : Nat → Nat → List Int
  | 0, _ => []
  | m + 1, k => if set >>> k % 2 = 1 then (k : Int) :: listFrom set m (k + 1) else listFrom set m (k + 1)
variable (g : Nat → PV) (lf n : Nat)

/-! ### a set's list -/
theorem listFrom_nil {set : Nat} : ∀ (m k : Nat), set >>> k = 0 → listFrom set m k = []
  | 0, _, _ => rfl
  | m + 1, k, h => by
    have h2 : set >>> (k + 1) = 0 := by rw [Nat.shiftRight_add, h]; rfl
    rw [listFrom, h, if_neg (by decide), listFrom_nil m (k + 1) h2]

/-! ### gaps -/
/-! ### the functions -/
end Go.Proofs.YtlefknibddkjpaaDoor

/- The model's Filled and GapCells. -/
set_option maxRecDepth 20000
namespace Go.Proofs.YtlefknibddkjpaaDoor
open Go Go.Ip G

variable (g : Nat → PV) (lf n : Nat)

/-- An empty literal, and a whole list appended: a copy. -/
theorem copy_all {xs : List Int} {p : PV} {h : PHeap} (hp : IntSl .i64 h p xs) (hx : 0 < xs.length) (hl : xs.length ≤ 2 ^ 36) :
    ∃ v q h', buildSliceP Tryd.prog 25 0 [] h = some v ∧ appendP Tryd.prog 25 25 v.1 p v.2 = some (q, h') ∧ OwnSl h.length h' q xs ∧ Keep h.length h h' := by
  rcases hp with ⟨rfl, rfl⟩ | ⟨id, off, rfl, hc⟩
  · simp at hx
  have hid : id < h.length := lt_of_cell (hc 0 _ (List.getElem?_eq_getElem hx))
  have hb : buildSliceP Tryd.prog 25 0 [] h = some (.sl h.length 0 0, h ++ [.own 1 []]) := by
    simp [buildSliceP, tyElem, tySize, tyZero, repeatCells, fillP]
  have hcells : ((cellsAt (h ++ [PObj.own 1 []]) id).drop off).take (xs.length * 1) = xs.map (.int .i64) := by
    rw [Nat.mul_one]
    apply List.ext_getElem?
    intro j
    have e : cellsAt (h ++ [PObj.own 1 []]) id = cellsAt h id := by unfold cellsAt; rw [List.getElem?_append_left hid]
    rw [e]
    by_cases hj : j < xs.length
    · rw [List.getElem?_take_of_lt hj, List.getElem?_drop, hc j _ (List.getElem?_eq_getElem hj), List.getElem?_map, List.getElem?_eq_getElem hj]; rfl
    · rw [List.getElem?_eq_none (by rw [List.length_take]; omega), List.getElem?_eq_none (by simp; omega)]
  have hfit : off + xs.length * 1 ≤ (cellsAt (h ++ [PObj.own 1 []]) id).length := by
    have := congrArg List.length hcells
    simp only [List.length_take, List.length_drop, List.length_map, Nat.mul_one] at this ⊢
    omega
  have hsrc : srcP (h ++ [PObj.own 1 []]) 1 (.sl id off xs.length) = some (xs.length, xs.map (.int .i64)) := by
    simp only [srcP]
    rw [if_pos hfit, hcells]
  refine ⟨_, .sl (h.length + 1) 0 (0 + xs.length), ((h ++ [PObj.own 1 []]).set h.length .dead ++ [PObj.own 1 ([] ++ xs.map (.int .i64))]), hb, ?_, .inr ⟨h.length + 1, by omega, by simp, ?_⟩, ?_⟩
  · simp only [appendP, tyElem, tySize, tySmall, bne_self_eq_false, Bool.not_true, Bool.or_self, Bool.false_eq_true, if_false, hsrc, Option.bind_some]
    have h3 : (h ++ [PObj.own 1 []])[h.length]? = some (.own 1 []) := by simp
    rw [h3]
    have : 0 + xs.length ≤ 2 ^ 36 := by omega
    simp only [List.length_nil, Nat.zero_mul, true_and, if_pos this]
    simp
  · rw [List.getElem?_append_right (by simp)]; simp
  · exact (((Keep.append _ h _ (Nat.le_refl _)).trans (Keep.set _ _ h.length .dead (Nat.le_refl _))).trans (Keep.append _ _ _ (by simp)))

/-! ### the cells that close a gap -/
end Go.Proofs.YtlefknibddkjpaaDoor

/- Of all boards and all sets of cells: exactly one has joined on a full board; turned, and mirrored. No program text. -/
set_option maxRecDepth 20000
namespace Go.Proofs.YtlefknibddkjpaaDoor

def boards : List (Nat × Nat) := [(1, 1), (1, 2), (1, 3), (1, 4), (2, 1), (2, 2), (2, 3), (2, 4), (3, 1), (3, 2), (3, 3), (4, 1), (4, 2)]
theorem board_mem {R C : Nat} (h : BoardOf R C) : (R, C) ∈ boards := by
  obtain ⟨h1, h2, h3, h4, h9⟩ := h
  have hR : R = 1 ∨ R = 2 ∨ R = 3 ∨ R = 4 := by omega
  have hC : C = 1 ∨ C = 2 ∨ C = 3 ∨ C = 4 := by omega
  rcases hR with rfl | rfl | rfl | rfl <;> rcases hC with rfl | rfl | rfl | rfl <;> first | decide | omega

/-- The cells of a set, each at another place. -/
def moved (f : Nat → Nat) (S : Nat) : Nat → Nat
  | 0 => 0
  | k + 1 => moved f S k ||| (if S.testBit k then 1 <<< f k else 0)

def hexB (R C S : Nat) : Bool :=
  (joinsN R C 1 S != joinsN R C 2 (2 ^ (R * C) - 1 - S)) &&
  (joinsN R C 1 (moved (fun k => R * C - 1 - k) S (R * C)) == joinsN R C 1 S) && (joinsN R C 2 (moved (fun k => R * C - 1 - k) S (R * C)) == joinsN R C 2 S) &&
  (joinsN C R 2 (moved (sig C R) S (R * C)) == joinsN R C 1 S) && (joinsN C R 1 (moved (sig C R) S (R * C)) == joinsN R C 2 S)

theorem hex_all : (boards.all fun b => (List.range (2 ^ (b.1 * b.2))).all fun S => hexB b.1 b.2 S) = true := by kernel_rfl

theorem hex_ok {R C S : Nat} (hb : BoardOf R C) (hS : S < 2 ^ (R * C)) : hexB R C S = true := by
  have := List.all_eq_true.1 hex_all (R, C) (board_mem hb)
  exact List.all_eq_true.1 this S (by rw [List.mem_range]; exact hS)

end Go.Proofs.YtlefknibddkjpaaDoor

/- Promise 6: mirrored twice it is as before. -/
set_option maxRecDepth 20000
namespace Go.Proofs.YtlefknibddkjpaaDoor
open Go Go.Ip Go.RowKit G

variable (g : Nat → PV) (lf n : Nat)

end Go.Proofs.YtlefknibddkjpaaDoor

/- What the laws of chapter 2 say of positions, as facts on sets of cells. No program text. -/
set_option maxRecDepth 20000
namespace Go.Proofs.YtlefknibddkjpaaDoor

/-! ### joined sides -/
theorem compl_bit {n S : Nat} (hS : S < 2 ^ n) (j : Nat) : (2 ^ n - 1 - S).testBit j = (decide (j < n) && !S.testBit j) := by
  rw [Nat.sub_sub, Nat.add_comm 1 S]; exact Nat.testBit_two_pow_sub_succ hS j

theorem hex {R C P S : Nat} (hB : BoardOf R C) (hP : P = 1 ∨ P = 2) (hS : S < 2 ^ (R * C)) : joinsN R C P S = !joinsN R C (3 - P) (2 ^ (R * C) - 1 - S) := by
  have key : ∀ T, T < 2 ^ (R * C) → joinsN R C 1 T = !joinsN R C 2 (2 ^ (R * C) - 1 - T) := fun T hT => by
    have := hex_ok hB hT
    unfold hexB at this
    simp only [Bool.and_eq_true] at this
    have := this.1.1.1.1
    cases h1 : joinsN R C 1 T <;> cases h2 : joinsN R C 2 (2 ^ (R * C) - 1 - T) <;> rw [h1, h2] at this <;> first | rfl | cases this
  rcases hP with rfl | rfl
  · exact key S hS
  · have h2 := key (2 ^ (R * C) - 1 - S) (by omega)
    rw [show 2 ^ (R * C) - 1 - (2 ^ (R * C) - 1 - S) = S by omega] at h2
    rw [show 3 - 2 = 1 from rfl, h2, Bool.not_not]

/-! ### filled -/
/-! ### turned and mirrored -/
theorem moved_bit (f : Nat → Nat) (S : Nat) : ∀ (n j : Nat), (moved f S n).testBit j = true ↔ ∃ k, k < n ∧ S.testBit k = true ∧ j = f k
  | 0, j => by simp [moved]
  | n + 1, j => by
    rw [moved, Nat.testBit_or, Bool.or_eq_true, moved_bit f S n j]
    have hlast : ((if S.testBit n = true then 1 <<< f n else 0).testBit j = true) ↔ (S.testBit n = true ∧ j = f n) := by
      by_cases h : S.testBit n = true
      · rw [if_pos h, one_bit, decide_eq_true_iff]; simp [h]
      · rw [if_neg h, Nat.zero_testBit]; simp [h]
    rw [hlast]
    constructor
    · rintro (⟨k, h1, h2, h3⟩ | ⟨h1, h2⟩)
      · exact ⟨k, by omega, h2, h3⟩
      · exact ⟨n, by omega, h1, h2⟩
    · rintro ⟨k, h1, h2, h3⟩
      by_cases e : k = n
      · subst e; exact .inr ⟨h2, h3⟩
      · exact .inl ⟨k, by omega, h2, h3⟩

/-! ### gaps -/
/-! ### the cells that close a gap -/
end Go.Proofs.YtlefknibddkjpaaDoor

/- Who wins, told by the sets of both players' stones: what it is, that a stone more never harms, that to move never harms, and that turned and mirrored it is the same. No program text. -/
set_option maxRecDepth 20000
namespace Go.Proofs.YtlefknibddkjpaaDoor
open Go Go.Ip G

/-- A stone of the one to move. -/
def putA (t k a : Nat) : Nat := if t = 1 then a ||| (1 <<< k) else a
def putB (t k b : Nat) : Nat := if t = 1 then b else b ||| (1 <<< k)

def winF (R C : Nat) : Nat → Nat → Nat → Nat → Nat
  | 0, a, b, t => if joinsN R C 1 a = true then 1 else if joinsN R C 2 b = true then 2 else 3 - t
  | f + 1, a, b, t => if joinsN R C 1 a = true then 1 else if joinsN R C 2 b = true then 2 else
      if ((List.range (R * C)).any fun k => !(a ||| b).testBit k && decide (winF R C f (putA t k a) (putB t k b) (3 - t) = t)) = true then t else 3 - t

def winN (R C a b t : Nat) : Nat := winF R C (R * C) a b t

theorem put_bit (t k a b j : Nat) : (putA t k a ||| putB t k b).testBit j = ((a ||| b).testBit j || decide (j = k)) := by
  unfold putA putB
  split
  · rw [Nat.testBit_or, with_bit, Nat.testBit_or]; cases a.testBit j <;> cases b.testBit j <;> simp
  · rw [Nat.testBit_or, with_bit, Nat.testBit_or, Bool.or_assoc]

/-- A position, by its two sets. -/
def Pos (R C a b : Nat) : Prop := a < 2 ^ (R * C) ∧ b < 2 ^ (R * C) ∧ ∀ j, a.testBit j = true → b.testBit j = true → False

theorem Pos.put {R C a b t k : Nat} (h : Pos R C a b) (hk : k < R * C) (hf : (a ||| b).testBit k = false) : Pos R C (putA t k a) (putB t k b) := by
  rw [Nat.testBit_or, Bool.or_eq_false_iff] at hf
  have hl : 1 <<< k < 2 ^ (R * C) := by rw [Nat.one_shiftLeft]; exact Nat.pow_lt_pow_right (by decide) hk
  unfold putA putB
  split
  · refine ⟨Nat.or_lt_two_pow h.1 hl, h.2.1, fun j h1 h2 => ?_⟩
    rw [with_bit, Bool.or_eq_true, decide_eq_true_eq] at h1
    rcases h1 with h1 | rfl
    · exact h.2.2 j h1 h2
    · rw [hf.2] at h2; cases h2
  · refine ⟨h.1, Nat.or_lt_two_pow h.2.1 hl, fun j h1 h2 => ?_⟩
    rw [with_bit, Bool.or_eq_true, decide_eq_true_eq] at h2
    rcases h2 with h2 | rfl
    · exact h.2.2 j h1 h2
    · rw [hf.1] at h1; cases h1

/-- If nobody has joined there is a free cell. -/
theorem Pos.free {R C a b : Nat} (hB : BoardOf R C) (h : Pos R C a b) (h1 : joinsN R C 1 a = false) (h2 : joinsN R C 2 b = false) : ∃ k, k < R * C ∧ (a ||| b).testBit k = false := by
  apply Classical.byContradiction
  intro hn
  have hall : ∀ k, k < R * C → (a ||| b).testBit k = true := fun k hk => by
    cases e : (a ||| b).testBit k with
    | true => rfl
    | false => exact (hn ⟨k, hk, e⟩).elim
  have hb : 2 ^ (R * C) - 1 - a = b := by
    apply Nat.eq_of_testBit_eq
    intro j
    rw [compl_bit h.1]
    by_cases hj : j < R * C
    · have := hall j hj
      rw [Nat.testBit_or, Bool.or_eq_true] at this
      cases ea : a.testBit j with
      | true =>
        cases eb : b.testBit j with
        | false => simp
        | true => exact (h.2.2 j ea eb).elim
      | false =>
        rw [ea] at this
        simp at this
        simp [hj, this]
    · cases eb : b.testBit j with
      | true => exact (hj (bit_small h.2.1 eb)).elim
      | false => simp [hj]
  have h3 := hex hB (.inl rfl) h.1
  rw [show 3 - 1 = 2 from rfl, hb, h1, h2] at h3
  cases h3

/-! ### turned and mirrored -/
/-- Each place is taken by just one. -/
structure Perm (f : Nat → Nat) (n : Nat) : Prop where
  lt : ∀ k, k < n → f k < n
  inj : ∀ i k, i < n → k < n → f i = f k → i = k
  onto : ∀ j, j < n → ∃ k, k < n ∧ f k = j

theorem moved_at {f : Nat → Nat} {S n k : Nat} (hf : Perm f n) (hk : k < n) : (moved f S n).testBit (f k) = S.testBit k := by
  rw [Bool.eq_iff_iff, moved_bit]
  constructor
  · rintro ⟨i, hi, h, e⟩
    rw [hf.inj k i hk hi e]; exact h
  · intro h; exact ⟨k, hk, h, rfl⟩

theorem moved_lt {f : Nat → Nat} {S n : Nat} (hf : Perm f n) : moved f S n < 2 ^ n := by
  apply Nat.lt_pow_two_of_testBit
  intro i hi
  cases e : (moved f S n).testBit i with
  | false => rfl
  | true =>
    obtain ⟨k, hk, _, rfl⟩ := (moved_bit f S n i).1 e
    have := hf.lt k hk
    omega

theorem Pos.moved {R C R' C' a b : Nat} {f : Nat → Nat} (hn : R' * C' = R * C) (hf : Perm f (R * C)) (h : Pos R C a b) : Pos R' C' (moved f a (R * C)) (moved f b (R * C)) := by
  refine ⟨by rw [hn]; exact moved_lt hf, by rw [hn]; exact moved_lt hf, fun j h1 h2 => ?_⟩
  obtain ⟨i, hi, ha, rfl⟩ := (moved_bit _ _ _ _).1 h1
  rw [moved_at hf hi] at h2
  exact h.2.2 i ha h2

end Go.Proofs.YtlefknibddkjpaaDoor

/- Rules to walk through a function's plain form with what is to hold in the end: binds, conditions, guards, comparisons, numbers, calls and loops. -/
set_option maxRecDepth 20000
namespace Go.Proofs.YtlefknibddkjpaaDoor
open Go Go.Ip G

/-- The result is there, and Q holds of it. -/
def W (x : Res) (Q : PV → PHeap → Prop) : Prop := ∃ v h', x = some (v, h') ∧ Q v h'

section
variable {α : Type} {Q Q' : PV → PHeap → Prop} {P : Program} {t : TypeId} {k : IntKind}

theorem W.ret {v : PV} {h : PHeap} (hq : Q v h) : W (some (v, h)) Q := ⟨v, h, rfl, hq⟩
theorem W.mono {x : Res} (hx : W x Q') (hf : ∀ v h, Q' v h → Q v h) : W x Q := by
  obtain ⟨v, h, e, q⟩ := hx; exact ⟨v, h, e, hf v h q⟩
theorem W.of {x : Res} {v : PV} {h : PHeap} (hx : x = some (v, h)) (hq : Q v h) : W x Q := ⟨v, h, hx, hq⟩
theorem wbd {x : Option α} {v : α} {f : α → Res} (hx : x = some v) (hf : W (f v) Q) : W (x.bind f) Q := by rw [hx]; exact hf
theorem wcall {x : Res} {f : PV × PHeap → Res} (hx : W x Q') (hf : ∀ v h, Q' v h → W (f (v, h)) Q) : W (x.bind f) Q := by
  obtain ⟨v, h, e, q⟩ := hx; rw [e]; exact hf v h q
theorem wT {x y : Res} (h : W x Q) : W (condP (.bool true) x y) Q := h
theorem wF {x y : Res} (h : W y Q) : W (condP (.bool false) x y) Q := h
theorem wg1 {b u : Bool} {x y : Option α} {f : α → Res} (hb : b = u) (hx : W (x.bind f) Q) : W ((wantV (.bool b) u).bind fun v => (bif v then x else y).bind f) Q := by
  subst hb; simpa using hx
theorem wg0 {b u : Bool} {x y : Option α} {f : α → Res} (hb : b = !u) (hy : W (y.bind f) Q) : W ((wantV (.bool b) u).bind fun v => (bif v then x else y).bind f) Q := by
  subst hb; cases u <;> simpa using hy
theorem wgu {u : Bool} {x y : Option α} {f : α → Res} (hy : W (y.bind f) Q) : W ((wantV (.tup []) u).bind fun v => (bif v then x else y).bind f) Q := by simpa using hy
theorem wpT {u v : PV} {f : PV → Res} (h : W (f u) Q) : W ((pickP (.bool true) u v).bind f) Q := h
theorem wpF {u v : PV} {f : PV → Res} (h : W (f v) Q) : W ((pickP (.bool false) u v).bind f) Q := h
theorem wnT {f : PV → Res} (h : W (f (.bool false)) Q) : W ((unP .not (.bool true)).bind f) Q := h
theorem wnF {f : PV → Res} (h : W (f (.bool true)) Q) : W ((unP .not (.bool false)).bind f) Q := h
theorem wpv {x : Option PV} {h : PHeap} {f : PV × PHeap → Res} (hx : W (x.bind fun v => f (v, h)) Q) : W ((pv h x).bind f) Q := by
  cases x <;> exact hx
theorem wsm {v : α} {f : α → Res} (h : W (f v) Q) : W ((some v).bind f) Q := h
theorem wrI {a : Int} {f : PV → Res} (h : W (f (.int k a)) Q) : W ((resV (.int k a)).bind f) Q := h
theorem wrB {a : Bool} {f : PV → Res} (h : W (f (.bool a)) Q) : W ((resV (.bool a)).bind f) Q := h
theorem wrN {f : PV → Res} (h : W (f .nilsl) Q) : W ((resV .nilsl).bind f) Q := h
theorem wx0 {a : PV} {l : List PV} {f : PV → Res} (h : W (f a) Q) : W ((extractP (.tup (a :: l)) 0).bind f) Q := h
theorem wx1 {a b : PV} {l : List PV} {f : PV → Res} (h : W (f b) Q) : W ((extractP (.tup (a :: b :: l)) 1).bind f) Q := h
theorem wx2 {a b c : PV} {l : List PV} {f : PV → Res} (h : W (f c) Q) : W ((extractP (.tup (a :: b :: c :: l)) 2).bind f) Q := h
theorem wck {b : Bool} {x : Res} (hb : b = true) (h : W x Q) : W (ckP b x) Q := by rw [hb]; exact h
/-! ### comparisons -/
section
variable {a b : Int} {f : PV → Res}
theorem wlssT (h : a < b) (hf : W (f (.bool true)) Q) : W ((binP P .lss t (.int k a) (.int k b)).bind f) Q := wbd (by rw [bin_lss, decide_eq_true h]) hf
theorem wlssF (h : ¬ a < b) (hf : W (f (.bool false)) Q) : W ((binP P .lss t (.int k a) (.int k b)).bind f) Q := wbd (by rw [bin_lss, decide_eq_false h]) hf
theorem wleqT (h : a ≤ b) (hf : W (f (.bool true)) Q) : W ((binP P .leq t (.int k a) (.int k b)).bind f) Q := wbd (by rw [bin_leq, decide_eq_true h]) hf
theorem wleqF (h : ¬ a ≤ b) (hf : W (f (.bool false)) Q) : W ((binP P .leq t (.int k a) (.int k b)).bind f) Q := wbd (by rw [bin_leq, decide_eq_false h]) hf
theorem wgtrT (h : b < a) (hf : W (f (.bool true)) Q) : W ((binP P .gtr t (.int k a) (.int k b)).bind f) Q := wbd (by rw [bin_gtr, decide_eq_true h]) hf
theorem wgtrF (h : ¬ b < a) (hf : W (f (.bool false)) Q) : W ((binP P .gtr t (.int k a) (.int k b)).bind f) Q := wbd (by rw [bin_gtr, decide_eq_false h]) hf
theorem wgeqT (h : b ≤ a) (hf : W (f (.bool true)) Q) : W ((binP P .geq t (.int k a) (.int k b)).bind f) Q := wbd (by rw [bin_geq, decide_eq_true h]) hf
theorem wgeqF (h : ¬ b ≤ a) (hf : W (f (.bool false)) Q) : W ((binP P .geq t (.int k a) (.int k b)).bind f) Q := wbd (by rw [bin_geq, decide_eq_false h]) hf
theorem weqlT (h : a = b) (hf : W (f (.bool true)) Q) : W ((binP P .eql t (.int k a) (.int k b)).bind f) Q := wbd (by rw [bin_eql, beq_iff_eq.2 h]) hf
theorem weqlF (h : ¬ a = b) (hf : W (f (.bool false)) Q) : W ((binP P .eql t (.int k a) (.int k b)).bind f) Q := wbd (by rw [bin_eql, beq_eq_false_iff_ne.2 h]) hf
theorem wneqT (h : ¬ a = b) (hf : W (f (.bool true)) Q) : W ((binP P .neq t (.int k a) (.int k b)).bind f) Q := wbd (by rw [bin_neq, bne, beq_eq_false_iff_ne.2 h]; rfl) hf
theorem wneqF (h : a = b) (hf : W (f (.bool false)) Q) : W ((binP P .neq t (.int k a) (.int k b)).bind f) Q := wbd (by rw [bin_neq, bne, beq_iff_eq.2 h]; rfl) hf
theorem weql (h1 : a = b → W (f (.bool true)) Q) (h2 : ¬ a = b → W (f (.bool false)) Q) : W ((binP P .eql t (.int k a) (.int k b)).bind f) Q := by
  by_cases e : a = b
  · exact weqlT e (h1 e)
  · exact weqlF e (h2 e)
theorem wneq (h1 : ¬ a = b → W (f (.bool true)) Q) (h2 : a = b → W (f (.bool false)) Q) : W ((binP P .neq t (.int k a) (.int k b)).bind f) Q := by
  by_cases e : a = b
  · exact wneqF e (h2 e)
  · exact wneqT e (h1 e)
end

/-! ### numbers -/
section
variable {a b : Int} {x y : Nat} {f : PV → Res}
theorem wadd (h : -4611686018427387904 ≤ a + b ∧ a + b ≤ 4611686018427387904) (hf : W (f (.int .i64 (a + b))) Q) : W ((binP P .add t (.int .i64 a) (.int .i64 b)).bind f) Q := wbd (by rw [bin_add, wr (by omega)]) hf
theorem wsub (h : -4611686018427387904 ≤ a - b ∧ a - b ≤ 4611686018427387904) (hf : W (f (.int .i64 (a - b))) Q) : W ((binP P .sub t (.int .i64 a) (.int .i64 b)).bind f) Q := wbd (by rw [bin_sub, wr (by omega)]) hf
theorem wmul (h : -4611686018427387904 ≤ a * b ∧ a * b ≤ 4611686018427387904) (hf : W (f (.int .i64 (a * b))) Q) : W ((binP P .mul t (.int .i64 a) (.int .i64 b)).bind f) Q := wbd (by rw [bin_mul, wr (by omega)]) hf
theorem wadd1 (h : x < 4611686018427387904) (hf : W (f (.int .i64 ((x + 1 : Nat) : Int))) Q) : W ((binP P .add t (.int .i64 (x : Int)) (.int .i64 1)).bind f) Q := wbd (by rw [bin_add, wr (by omega)]; rfl) hf
theorem waddN (h : x + y < 4611686018427387904) (hf : W (f (.int .i64 ((x + y : Nat) : Int))) Q) : W ((binP P .add t (.int .i64 (x : Int)) (.int .i64 (y : Int))).bind f) Q := wbd (by rw [bin_add, wr (by omega)]; rfl) hf
theorem wsub1 (h : 1 ≤ x) (h2 : x < 4611686018427387904) (hf : W (f (.int .i64 ((x - 1 : Nat) : Int))) Q) : W ((binP P .sub t (.int .i64 (x : Int)) (.int .i64 1)).bind f) Q := wbd (by rw [bin_sub, wr (by omega), show (x : Int) - 1 = ((x - 1 : Nat) : Int) by omega]) hf
theorem wmulN (h : x * y < 4611686018427387904) (hf : W (f (.int .i64 ((x * y : Nat) : Int))) Q) : W ((binP P .mul t (.int .i64 (x : Int)) (.int .i64 (y : Int))).bind f) Q := wbd (by rw [bin_mul, ← Int.natCast_mul, wr (by omega)]) hf
end
end

section
variable {Q : PV → PHeap → Prop} {x y : Nat} {f : PV → Res}
theorem wquoN (h : 1 ≤ y) (h2 : x < 4611686018427387904) (hf : W (f (.int .i64 ((x / y : Nat) : Int))) Q) : W ((binP Tryd.prog .quo 3 (.int .i64 (x : Int)) (.int .i64 (y : Int))).bind f) Q :=
  wbd (by rw [bin_quo (by omega), ← Int.ofNat_tdiv, wr (by have := Nat.div_le_self x y; generalize x / y = z at this ⊢; omega)]) hf
theorem wrem2 (hf : W (f (.int .i64 ((x % 2 : Nat) : Int))) Q) : W ((binP Tryd.prog .rem 3 (.int .i64 (x : Int)) (.int .i64 2)).bind f) Q := wbd (f_rem x 2 (by decide)) hf
theorem wshl (h : y ≤ 30) (hf : W (f (.int .i64 ((1 <<< y : Nat) : Int))) Q) : W ((binP Tryd.prog .shl 3 (.int .i64 1) (.int .i64 (y : Int))).bind f) Q := wbd (f_shl y h) hf
theorem wshr (h : y ≤ 60) (hf : W (f (.int .i64 ((x >>> y : Nat) : Int))) Q) : W ((binP Tryd.prog .shr 3 (.int .i64 (x : Int)) (.int .i64 (y : Int))).bind f) Q := wbd (f_shr x y h) hf
theorem wand (hx : x < 2 ^ 62) (hy : y < 2 ^ 62) (hf : W (f (.int .i64 ((x &&& y : Nat) : Int))) Q) : W ((binP Tryd.prog .and 3 (.int .i64 (x : Int)) (.int .i64 (y : Int))).bind f) Q := wbd (f_and hx hy) hf
theorem wor (hx : x < 2 ^ 62) (hy : y < 2 ^ 62) (hf : W (f (.int .i64 ((x ||| y : Nat) : Int))) Q) : W ((binP Tryd.prog .or 3 (.int .i64 (x : Int)) (.int .i64 (y : Int))).bind f) Q := wbd (f_or hx hy) hf

/-- What is in x, and not in y. -/
def minusN (x y : Nat) : Nat := x ^^^ (x &&& y)
theorem minusN_bit (x y j : Nat) : (minusN x y).testBit j = (x.testBit j && !y.testBit j) := by
  unfold minusN; rw [Nat.testBit_xor, Nat.testBit_and]; cases x.testBit j <;> cases y.testBit j <;> rfl
theorem minusN_lt {x y n : Nat} (hx : x < 2 ^ n) : minusN x y < 2 ^ n := Nat.lt_of_le_of_lt (sub_le fun j hj => by rw [minusN_bit, Bool.and_eq_true] at hj; exact hj.1) hx
theorem f_andNot (hx : x < 2 ^ 62) (hy : y < 2 ^ 62) : binP Tryd.prog .andNot 3 (.int .i64 (x : Int)) (.int .i64 (y : Int)) = some (.int .i64 ((minusN x y : Nat) : Int)) := by
  have e1 : BitVec.ofInt 64 (x : Int) = BitVec.ofNat 64 x := by rw [BitVec.ofInt_natCast]
  have e2 : BitVec.ofInt 64 (y : Int) = BitVec.ofNat 64 y := by rw [BitVec.ofInt_natCast]
  have e3 : (BitVec.ofNat 64 x &&& ~~~(BitVec.ofNat 64 y)).toNat = minusN x y := by
    apply Nat.eq_of_testBit_eq
    intro j
    rw [minusN_bit, ← BitVec.getLsbD, BitVec.getLsbD_and, BitVec.getLsbD_not, BitVec.getLsbD_ofNat, BitVec.getLsbD_ofNat]
    by_cases hj : j < 64
    · simp [hj]
    · have : x.testBit j = false := Nat.testBit_lt_two_pow (Nat.lt_of_lt_of_le hx (Nat.pow_le_pow_right (by decide) (by omega)))
      simp [hj, this]
  show binI .andNot .i64 (x : Int) (y : Int) = _
  have hl : minusN x y < 2 ^ 62 := minusN_lt hx
  show some (PV.int .i64 (IntKind.i64.wrap ((BitVec.ofInt 64 (x : Int) &&& ~~~(BitVec.ofInt 64 (y : Int))).toNat))) = _
  rw [e1, e2, e3, wr (by omega)]
theorem wandNot (hx : x < 2 ^ 62) (hy : y < 2 ^ 62) (hf : W (f (.int .i64 ((minusN x y : Nat) : Int))) Q) : W ((binP Tryd.prog .andNot 3 (.int .i64 (x : Int)) (.int .i64 (y : Int))).bind f) Q := wbd (f_andNot hx hy) hf

/-! ### slices of integers -/
variable {h : PHeap} {p : PV} {xs : List Int}
theorem wlen (s : IntSl .i64 h p xs) (hf : W (f (.int .i64 (xs.length : Int))) Q) : W ((lenP Tryd.prog 25 p).bind f) Q := wbd s.len' hf
/-- An element is read. -/
theorem wat (s : IntSl .i64 h p xs) {i : Nat} (hi : i < xs.length) (hf : ∀ a, loadP Tryd.prog 3 a h = some (.int .i64 xs[i]) → W (f a) Q) : W ((indexAddrP Tryd.prog 25 p (.int .i64 (i : Int))).bind f) Q := by
  obtain ⟨a, e, l⟩ := s.at' hi; exact wbd e (hf a l)
theorem wresO {n : Nat} (s : OwnSl n h p xs) (hf : W (f p) Q) : W ((resV p).bind f) Q := wbd s.res hf
/-- An element is written. -/
theorem wst {n i : Nat} (s : OwnSl n h p xs) (hi : i < xs.length) {x : Int} {F : PV → PHeap → Res}
    (hf : ∀ h', OwnSl n h' p (xs.set i x) → Keep n h h' → h'.length = h.length → ∀ a, storeP Tryd.prog 3 a (.int .i64 x) h = some h' → W (F a h') Q) :
    W ((indexAddrP Tryd.prog 25 p (.int .i64 (i : Int))).bind fun a => (storeP Tryd.prog 3 a (.int .i64 x) h).bind fun h' => F a h') Q := by
  obtain ⟨a, h', e1, e2, o, k, l⟩ := s.store hi x
  refine wbd e1 ?_
  show W ((storeP Tryd.prog 3 a (.int .i64 x) h).bind fun h' => F a h') Q
  exact wbd e2 (hf h' o k l a e2)
/-- One element is appended. -/
theorem wap {n : Nat} (s : OwnSl n h p xs) (hn : n ≤ h.length) {x : Int} (hl : xs.length + 1 ≤ 2 ^ 36) {F : PV × PHeap → Res}
    (hf : ∀ p' h', OwnSl n h' p' (xs ++ [x]) → Keep n h h' → W (F (p', h')) Q) :
    W ((buildSliceP Tryd.prog 25 1 [(0, .int .i64 x)] h).bind fun v => (appendP Tryd.prog 25 25 p v.1 v.2).bind F) Q := by
  obtain ⟨v, p', h', e1, e2, o, k⟩ := s.append hn x hl
  exact wbd e1 (wbd e2 (hf p' h' o k))
/-- A slice is made. -/
theorem wmake {m : Nat} (hm : m ≤ 2 ^ 36) {F : PV × PHeap → Res} (hf : ∀ p h', OwnSl h.length h' p (List.replicate m 0) → Keep h.length h h' → W (F (p, h')) Q) :
    W ((makeP Tryd.prog 25 (.int .i64 (m : Int)) (.int .i64 (m : Int)) h).bind F) Q := by
  obtain ⟨p, h', e, o, k⟩ := made (h := h) hm; exact wbd e (hf p h' o k)
theorem wempty {F : PV × PHeap → Res} (hf : ∀ p h', OwnSl h.length h' p [] → Keep h.length h h' → W (F (p, h')) Q) : W ((buildSliceP Tryd.prog 25 0 [] h).bind F) Q := by
  obtain ⟨p, h', e, o, k⟩ := empty_lit (h := h); exact wbd e (hf p h' o k)
end

/-! ### loops -/
theorem loopW {f : St → (PX → St → Res) → Res} {k : PX → St → Res} {Q : PV → PHeap → Prop} (I : Nat → St → Prop)
    (step : ∀ n m s, I m s → (∀ m' s', m' < m → I m' s' → W (kLoop f n k .normal s') Q) → W (f s (kLoop f n k)) Q) : ∀ (fuel m : Nat) (s : St), m < fuel → I m s → W (loopK f fuel s k) Q
  | 0, m, s, hm, _ => by omega
  | n + 1, m, s, hm, hI => by
    rw [loopK_succ]
    exact step n m s hI fun m' s' hm' hI' => by rw [kLoop_normal]; exact loopW I step n m' s' (by omega) hI'

/-- A list that whatever changes behind mark b leaves as it is. -/
def Fix (b : Nat) (h : PHeap) (p : PV) (xs : List Int) : Prop := ∀ h', Keep b h h' → IntSl .i64 h' p xs
theorem Fix.now {b : Nat} {h : PHeap} {p : PV} {xs : List Int} (s : Fix b h p xs) : IntSl .i64 h p xs := s h (Keep.refl _ _)
theorem Fix.keep {b : Nat} {h h' : PHeap} {p : PV} {xs : List Int} (s : Fix b h p xs) (k : Keep b h h') : Fix b h' p xs := fun h2 k2 => s h2 (k.trans k2)
theorem IntSl.fix {h : PHeap} {p : PV} {xs : List Int} (s : IntSl .i64 h p xs) : Fix h.length h p xs := fun _ k => s.keep k
theorem Fix.mono {b b' : Nat} {h : PHeap} {p : PV} {xs : List Int} (s : Fix b h p xs) (hb : b ≤ b') : Fix b' h p xs := fun h2 k2 => s h2 (k2.mono hb)

end Go.Proofs.YtlefknibddkjpaaDoor

/- The laws of chapter 2 over what the program's functions are asked to compute: the draws, the exact laws, and promise 9. -/
set_option maxRecDepth 20000
namespace Go.Proofs.YtlefknibddkjpaaDoor
open Go Go.Ip G

/-- What the program's functions may read besides: the table of steps, where there is one. -/
def triCells : List PV := [.int .i64 (-1), .int .i64 (-1), .int .i64 (-1), .int .i64 0, .int .i64 0, .int .i64 (-1), .int .i64 0, .int .i64 1, .int .i64 1, .int .i64 0, .int .i64 1, .int .i64 1]
def TabT (g : Nat → PV) (h : PHeap) : Prop := (∃ id, g 0 = .ptr id 0 ∧ h[id]? = some (.ro 1 triCells)) ∧ Tab64 g h
theorem TabT.keep {g : Nat → PV} {h h' : PHeap} (t : TabT g h) (k : Keep h.length h h') : TabT g h' := ⟨by obtain ⟨id, e, ho⟩ := t.1; exact ⟨id, e, by rw [k.2 id (List.getElem?_eq_some_iff.1 ho).1]; exact ho⟩, Tab64.keep t.2 k⟩
def TabOk (g : Nat → PV) (h : PHeap) : Prop := TabT g h
theorem TabOk.keep {g : Nat → PV} {h h' : PHeap} (t : TabOk g h) (k : Keep h.length h h') : TabOk g h' := TabT.keep t k

variable (g : Nat → PV) (lf n : Nat)

/-! ### the exact laws -/
/-! ### the draws -/
end Go.Proofs.YtlefknibddkjpaaDoor

/- Promises 11, 12, 13 and 14 over what the program's functions are asked to compute. -/
set_option maxRecDepth 20000
namespace Go.Proofs.YtlefknibddkjpaaDoor
open Go Go.Ip G

/-! ### more facts on positions -/
variable (g : Nat → PV) (lf n : Nat)

/-! ### promise 12 -/
end Go.Proofs.YtlefknibddkjpaaDoor

/- Promises 13 and 14 over what the program's functions are asked to compute. -/
set_option maxRecDepth 20000
namespace Go.Proofs.YtlefknibddkjpaaDoor
open Go Go.Ip G

/-! ### the cells that close a gap -/
variable (g : Nat → PV) (lf n : Nat)

/-! ### gaps of free boards, and mirrored -/
end Go.Proofs.YtlefknibddkjpaaDoor

/- Promises 10 and 15 over what the program's functions are asked to compute. -/
set_option maxRecDepth 20000
namespace Go.Proofs.YtlefknibddkjpaaDoor
open Go Go.Ip G

/-! ### lists of sets -/
theorem listFrom_mem (S : Nat) (e : Int) : ∀ (m k : Nat), e ∈ listFrom S m k ↔ ∃ j : Nat, e = (j : Int) ∧ k ≤ j ∧ j < k + m ∧ S.testBit j = true
  | 0, k => by
    rw [listFrom]
    constructor
    · intro h; simp at h
    · rintro ⟨j, _, h1, h2, _⟩; omega
  | m + 1, k => by
    have ih := listFrom_mem S e m (k + 1)
    rw [listFrom]
    by_cases hb : S >>> k % 2 = 1
    · rw [if_pos hb, List.mem_cons, ih]
      constructor
      · rintro (h | ⟨j, h1, h2, h3, h4⟩)
        · exact ⟨k, h, Nat.le_refl _, by omega, (bit_iff S k).1 hb⟩
        · exact ⟨j, h1, by omega, by omega, h4⟩
      · rintro ⟨j, h1, h2, h3, h4⟩
        by_cases e2 : j = k
        · exact .inl (by rw [h1, e2])
        · exact .inr ⟨j, h1, by omega, by omega, h4⟩
    · rw [if_neg hb, ih]
      constructor
      · rintro ⟨j, h1, h2, h3, h4⟩
        exact ⟨j, h1, by omega, by omega, h4⟩
      · rintro ⟨j, h1, h2, h3, h4⟩
        by_cases e2 : j = k
        · subst e2; exact absurd ((bit_iff S j).2 h4) hb
        · exact ⟨j, h1, by omega, by omega, h4⟩

theorem listFrom_sorted (S : Nat) : ∀ (m k : Nat), (listFrom S m k).Pairwise (· < ·)
  | 0, _ => List.Pairwise.nil
  | m + 1, k => by
    have ih := listFrom_sorted S m (k + 1)
    rw [listFrom]
    split
    · refine List.pairwise_cons.2 ⟨fun e he => ?_, ih⟩
      obtain ⟨j, h1, h2, _, _⟩ := (listFrom_mem S e m (k + 1)).1 he
      omega
    · exact ih

/-! ### masks -/
/-! ### groups -/
variable (g : Nat → PV) (lf n : Nat)

theorem loadAt {xs : List Int} {p a : PV} {h : PHeap} {i : Nat} (hp : IntSl .i64 h p xs) (hi : i < xs.length) (ha : indexAddrP Tryd.prog 25 p (.int .i64 (i : Int)) = some a) : loadP Tryd.prog 3 a h = some (.int .i64 xs[i]) := by
  obtain ⟨a', ha', hla⟩ := hp.at' hi
  obtain rfl : a = a' := Option.some.inj (ha.symm.trans ha')
  exact hla

end Go.Proofs.YtlefknibddkjpaaDoor

/- Promise 15 over what the program's functions are asked to compute. -/
set_option maxRecDepth 20000
namespace Go.Proofs.YtlefknibddkjpaaDoor
open Go Go.Ip G

/-! ### sides -/
variable (g : Nat → PV) (lf n : Nat)

end Go.Proofs.YtlefknibddkjpaaDoor

/- What chapter 3's functions tell of a position (moveL, playedL, winL, winCellsL, lineL), and what holds of them. No program text. -/
set_option maxRecDepth 20000
namespace Go.Proofs.YtlefknibddkjpaaDoor
open Go Go.Ip G

/-! ### none -/
theorem playerB_none {pl : Int} (h : 2 < pl) : playerB pl = false := by unfold playerB; exact decide_eq_false (by omega)
/-! ### sets -/
section
variable {R C : Nat} {xs : List Int} (hb : posB (R : Int) (C : Int) xs = true) (hS : Sides (R : Int) (C : Int) R C xs)
include hS
omit hS
include hb
include hS
end

/-! ### turned, mirrored -/
section
variable {R C : Nat} {xs : List Int} (hb : posB (R : Int) (C : Int) xs = true) (hS : Sides (R : Int) (C : Int) R C xs)
include hb hS
end

/-! ### moves -/
/-! ### winning cells -/
section
variable {R C : Nat} {xs : List Int} (hb : posB (R : Int) (C : Int) xs = true) (hS : Sides (R : Int) (C : Int) R C xs)
include hb hS
omit hb hS
include hb hS
end

/-! ### played on -/
section
variable {R C : Nat} {xs : List Int} (hb : posB (R : Int) (C : Int) xs = true) (hS : Sides (R : Int) (C : Int) R C xs)
include hb hS
end

end Go.Proofs.YtlefknibddkjpaaDoor

/- The model's table of who wins: each position has a place of its own in it. No program text. -/
set_option maxRecDepth 20000
namespace Go.Proofs.YtlefknibddkjpaaDoor
open Go Go.Ip G

/-- The place of a position, from its first k cells: the same number as the model reckons. -/
def keyF (a b : Nat) : Nat → Nat
  | 0 => 0
  | k + 1 => 3 * keyF a b k + (a >>> k % 2) + 2 * (b >>> k % 2)

theorem digit_le {R C a b : Nat} (h : Pos R C a b) (k : Nat) : a >>> k % 2 + 2 * (b >>> k % 2) ≤ 2 := by
  have h1 := bit_iff a k
  have h2 := bit_iff b k
  rcases Nat.mod_two_eq_zero_or_one (a >>> k) with e1 | e1 <;> rcases Nat.mod_two_eq_zero_or_one (b >>> k) with e2 | e2
  · omega
  · omega
  · omega
  · exact (h.2.2 k (h1.1 e1) (h2.1 e2)).elim
theorem key_lt {R C a b : Nat} (h : Pos R C a b) : ∀ k, keyF a b k < 3 ^ k
  | 0 => Nat.zero_lt_one
  | k + 1 => by
    have ih := key_lt h k
    have hd := digit_le h k
    rw [keyF, Nat.pow_succ]; omega
theorem key_inj {R C a b a' b' : Nat} (h : Pos R C a b) (h' : Pos R C a' b') : ∀ k, keyF a b k = keyF a' b' k → ∀ i, i < k → a.testBit i = a'.testBit i ∧ b.testBit i = b'.testBit i
  | 0, _, i, hi => by omega
  | k + 1, he, i, hi => by
    have hd := digit_le h k
    have hd' := digit_le h' k
    rw [keyF, keyF] at he
    have e1 : keyF a b k = keyF a' b' k := by omega
    have e2 : a >>> k % 2 = a' >>> k % 2 ∧ b >>> k % 2 = b' >>> k % 2 := by
      have := Nat.mod_two_eq_zero_or_one (a >>> k); have := Nat.mod_two_eq_zero_or_one (a' >>> k); omega
    by_cases hik : i = k
    · subst hik
      have t : ∀ x y : Nat, x >>> i % 2 = y >>> i % 2 → x.testBit i = y.testBit i := fun x y e => by
        rw [Bool.eq_iff_iff, ← bit_iff, ← bit_iff, e]
      exact ⟨t _ _ e2.1, t _ _ e2.2⟩
    · exact key_inj h h' k e1 i (by omega)
theorem key_pos {R C a b a' b' : Nat} (h : Pos R C a b) (h' : Pos R C a' b') (he : keyF a b (R * C) = keyF a' b' (R * C)) : a = a' ∧ b = b' := by
  have hk := key_inj h h' _ he
  have t : ∀ x y : Nat, x < 2 ^ (R * C) → y < 2 ^ (R * C) → (∀ i, i < R * C → x.testBit i = y.testBit i) → x = y := fun x y hx hy hxy => by
    apply Nat.eq_of_testBit_eq
    intro j
    by_cases hj : j < R * C
    · exact hxy j hj
    · have e1 : x.testBit j = false := Nat.testBit_lt_two_pow (Nat.lt_of_lt_of_le hx (Nat.pow_le_pow_right (by decide) (by omega)))
      have e2 : y.testBit j = false := Nat.testBit_lt_two_pow (Nat.lt_of_lt_of_le hy (Nat.pow_le_pow_right (by decide) (by omega)))
      rw [e1, e2]
  exact ⟨t _ _ h.1 h'.1 fun i hi => (hk i hi).1, t _ _ h.2.1 h'.2.1 fun i hi => (hk i hi).2⟩

def keyN (R C a b t : Nat) : Nat := 2 * keyF a b (R * C) + (t - 1)
/-- What the table holds: nothing, or who wins. -/
def Inv (R C : Nat) (T : List Int) : Prop := T.length = 2 * 3 ^ (R * C) ∧ ∀ a b t, Pos R C a b → (t = 1 ∨ t = 2) → T[keyN R C a b t]? = some 0 ∨ T[keyN R C a b t]? = some ((winN R C a b t : Nat) : Int)

theorem keyN_lt {R C a b t : Nat} (h : Pos R C a b) (ht : t = 1 ∨ t = 2) : keyN R C a b t < 2 * 3 ^ (R * C) := by
  have := key_lt h (R * C); unfold keyN; omega
theorem Inv.new (R C : Nat) : Inv R C (List.replicate (2 * 3 ^ (R * C)) 0) := by
  refine ⟨List.length_replicate, fun a b t h ht => .inl ?_⟩
  rw [List.getElem?_replicate, if_pos (keyN_lt h ht)]
theorem Inv.put {R C a b t : Nat} {T : List Int} (hi : Inv R C T) (h : Pos R C a b) (ht : t = 1 ∨ t = 2) : Inv R C (T.set (keyN R C a b t) ((winN R C a b t : Nat) : Int)) := by
  refine ⟨by rw [List.length_set]; exact hi.1, fun a' b' t' h' ht' => ?_⟩
  rw [List.getElem?_set]
  by_cases e : keyN R C a b t = keyN R C a' b' t'
  · right
    rw [if_pos e, if_pos (by rw [hi.1]; exact keyN_lt h ht)]
    unfold keyN at e
    have e1 : keyF a b (R * C) = keyF a' b' (R * C) := by omega
    have e2 : t = t' := by omega
    obtain ⟨rfl, rfl⟩ := key_pos h h' e1
    rw [e2]
  · rw [if_neg e]; exact hi.2 a' b' t' h' ht'
theorem Inv.get {R C a b t : Nat} {T : List Int} (hi : Inv R C T) (h : Pos R C a b) (ht : t = 1 ∨ t = 2) : ∃ hl : keyN R C a b t < T.length, T[keyN R C a b t] = 0 ∨ T[keyN R C a b t] = ((winN R C a b t : Nat) : Int) := by
  have hl : keyN R C a b t < T.length := by rw [hi.1]; exact keyN_lt h ht
  refine ⟨hl, ?_⟩
  have := hi.2 a b t h ht
  rw [List.getElem?_eq_getElem hl] at this
  exact this.imp Option.some.inj Option.some.inj

end Go.Proofs.YtlefknibddkjpaaDoor

/- The model's chapter 3: what MoveOk, Played, WinnerOf, WinningCells and LinePlayed of it compute. -/
set_option maxRecDepth 20000
namespace Go.Proofs.YtlefknibddkjpaaDoor
open Go Go.Ip G

variable (g : Nat → PV) (lf n : Nat)

/-! ### the solver -/
end Go.Proofs.YtlefknibddkjpaaDoor

/- The model's chapter 3, on: the winning cells and the moves played on. -/
set_option maxRecDepth 20000
namespace Go.Proofs.YtlefknibddkjpaaDoor
open Go Go.Ip G

/-! ### two lists at once: one between two marks, that is written to, and one apart from it, that grows -/
def Apart (b0 b1 b2 : Nat) (h : PHeap) (q : PV) (ys : List Int) : Prop := ∃ n m, OwnB n m h q ys ∧ b0 ≤ n ∧ (m ≤ b1 ∨ b2 ≤ n) ∧ m ≤ h.length
theorem Apart.keep {b0 b1 b2 : Nat} {h h' : PHeap} {q : PV} {ys : List Int} (s : Apart b0 b1 b2 h q ys) (k : Keep h.length h h') : Apart b0 b1 b2 h' q ys := by
  obtain ⟨n, m, o, h1, h2, h3⟩ := s
  exact ⟨n, m, o.keep (k.mono h3), h1, h2, Nat.le_trans h3 k.1⟩
theorem Apart.only {b0 b1 b2 : Nat} {h h' : PHeap} {q : PV} {ys : List Int} (s : Apart b0 b1 b2 h q ys) (k : Only b1 b2 h h') : Apart b0 b1 b2 h' q ys := by
  obtain ⟨n, m, o, h1, h2, h3⟩ := s
  exact ⟨n, m, o.only k (h2.imp id id), h1, h2, by rw [k.1]; exact h3⟩
theorem Apart.sl {b0 b1 b2 : Nat} {h : PHeap} {q : PV} {ys : List Int} (s : Apart b0 b1 b2 h q ys) : OwnSl b0 h q ys := by
  obtain ⟨n, m, o, h1, h2, h3⟩ := s
  exact o.sl.mono h1

theorem OwnB.append {n m : Nat} {h : PHeap} {p : PV} {xs : List Int} (s : OwnB n m h p xs) (hn : n ≤ h.length) (x : Int) (hl : xs.length + 1 ≤ 2 ^ 36) :
    ∃ v p' h', buildSliceP Tryd.prog 25 1 [(0, .int .i64 x)] h = some v ∧ appendP Tryd.prog 25 25 p v.1 v.2 = some (p', h') ∧ OwnSl h.length h' p' (xs ++ [x]) ∧ Keep n h h' ∧
      ∀ a b r zs, OwnB a b h r zs → (b ≤ n ∨ m ≤ a) → OwnB a b h' r zs := by
  have hb : buildSliceP Tryd.prog 25 1 [(0, .int .i64 x)] h = some (.sl h.length 0 1, h ++ [.own 1 [.int .i64 x]]) := by
    simp [buildSliceP, tyElem, tySize, tyZero, repeatCells, fillP, PV.cells, setCells]
  have hsrc : srcP (h ++ [.own 1 [.int .i64 x]]) 1 (.sl h.length 0 1) = some (1, [.int .i64 x]) := by
    simp [srcP, cellsAt, PObj.get]
  rcases s with ⟨rfl, rfl⟩ | ⟨id, h1, h2, rfl, h3⟩
  · refine ⟨_, .sl (h.length + 1) 0 1, h ++ [.own 1 [.int .i64 x]] ++ [.own 1 [.int .i64 x]], hb, ?_, .inr ⟨h.length + 1, by omega, rfl, ?_⟩, ?_, ?_⟩
    · simp [appendP, tyElem, tySize, tySmall, hsrc]
    · rw [List.getElem?_append_right (by simp)]; simp
    · rw [List.append_assoc]; exact Keep.append _ _ _ hn
    · rintro a b r zs (⟨rfl, rfl⟩ | ⟨i, i1, i2, rfl, i3⟩) _
      · exact .inl ⟨rfl, rfl⟩
      · refine .inr ⟨i, i1, i2, rfl, ?_⟩
        have hi : i < h.length := (List.getElem?_eq_some_iff.1 i3).1
        rw [List.append_assoc, List.getElem?_append_left hi]; exact i3
  · have hid : id < h.length := (List.getElem?_eq_some_iff.1 h3).1
    have h3' : (h ++ [PObj.own 1 [.int .i64 x]])[id]? = some (.own 1 (xs.map (.int .i64))) := by rw [List.getElem?_append_left hid]; exact h3
    refine ⟨_, .sl (h.length + 1) 0 (xs.length + 1), ((h ++ [PObj.own 1 [.int .i64 x]]).set id .dead ++ [PObj.own 1 (xs.map (.int .i64) ++ [.int .i64 x])]), hb, ?_, .inr ⟨h.length + 1, by omega, by simp, ?_⟩, ?_, ?_⟩
    · simp [appendP, tyElem, tySize, tySmall, hsrc, h3', hl]
    · rw [List.getElem?_append_right (by simp)]; simp
    · exact ((Keep.append n h _ hn).trans (Keep.set n _ id .dead h1)).trans (Keep.append _ _ _ (by simp; omega))
    · rintro a b r zs (⟨rfl, rfl⟩ | ⟨i, i1, i2, rfl, i3⟩) hd
      · exact .inl ⟨rfl, rfl⟩
      · refine .inr ⟨i, i1, i2, rfl, ?_⟩
        have hi : i < h.length := (List.getElem?_eq_some_iff.1 i3).1
        rw [List.getElem?_append_left (by simp; omega), List.getElem?_set_ne (by omega), List.getElem?_append_left hi]; exact i3

section
variable {Q : PV → PHeap → Prop} {h : PHeap} {p r : PV} {xs zs : List Int} {b0 b1 b2 : Nat}
theorem wapA (s : Apart b0 b1 b2 h p xs) (o : OwnB b1 b2 h r zs) (hb0 : b0 ≤ h.length) (hb2 : b2 ≤ h.length) {x : Int} (hl : xs.length + 1 ≤ 2 ^ 36) {F : PV × PHeap → Res}
    (hf : ∀ p' h', Apart b0 b1 b2 h' p' (xs ++ [x]) → OwnB b1 b2 h' r zs → Keep b0 h h' → W (F (p', h')) Q) :
    W ((buildSliceP Tryd.prog 25 1 [(0, .int .i64 x)] h).bind fun v => (appendP Tryd.prog 25 25 p v.1 v.2).bind F) Q := by
  obtain ⟨n, m, on, h1, h2, h3⟩ := s
  rcases Nat.le_total n h.length with hn | hn
  · obtain ⟨v, p', h', e1, e2, o', k, fr⟩ := on.append hn x hl
    exact wbd e1 (wbd e2 (hf p' h' ⟨h.length, h'.length, o'.b, hb0, .inr hb2, Nat.le_refl _⟩ (fr _ _ _ _ o (by omega)) (k.mono h1)))
  · have o0 : OwnB h.length m h p xs := by
      rcases on with on | ⟨id, i1, i2, i3, i4⟩
      · exact .inl on
      · have := (List.getElem?_eq_some_iff.1 i4).1; omega
    obtain ⟨v, p', h', e1, e2, o', k, fr⟩ := o0.append (Nat.le_refl _) x hl
    exact wbd e1 (wbd e2 (hf p' h' ⟨h.length, h'.length, o'.b, hb0, .inr hb2, Nat.le_refl _⟩ (fr _ _ _ _ o (by omega)) (k.mono hb0)))
theorem wstB (s : OwnB b1 b2 h p xs) {i : Nat} (hi : i < xs.length) {x : Int} {F : PV → PHeap → Res}
    (hf : ∀ h', OwnB b1 b2 h' p (xs.set i x) → Only b1 b2 h h' → ∀ a, W (F a h') Q) :
    W ((indexAddrP Tryd.prog 25 p (.int .i64 (i : Int))).bind fun a => (storeP Tryd.prog 3 a (.int .i64 x) h).bind fun h' => F a h') Q := by
  obtain ⟨a, h', e1, e2, o, k⟩ := s.store hi x
  refine wbd e1 ?_
  show W ((storeP Tryd.prog 3 a (.int .i64 x) h).bind fun h' => F a h') Q
  exact wbd e2 (hf h' o k a)
end

/-! ### winning cells -/
variable (g : Nat → PV) (lf n : Nat)

/-! ### played on -/
end Go.Proofs.YtlefknibddkjpaaDoor

/- Chapter 3's laws over what the program's functions are asked to compute: the draws, and the exact laws. -/
set_option maxRecDepth 20000
namespace Go.Proofs.YtlefknibddkjpaaDoor
open Go Go.Ip G

theorem W.yes {x : Res} (hx : W x fun v _ => v = .bool true) : ∃ h', x = some (.bool true, h') := by
  obtain ⟨_, h', e, rfl⟩ := hx; exact ⟨h', e⟩
section
variable {Q : PV → PHeap → Prop} {b : Bool} {f : PV → Res}
theorem wneqBB (hf : W (f (.bool false)) Q) : W ((binP Tryd.prog .neq 4 (.bool b) (.bool b)).bind f) Q := wbd (by rw [neqB]; simp) hf
theorem weqlBB (hf : W (f (.bool true)) Q) : W ((binP Tryd.prog .eql 4 (.bool b) (.bool b)).bind f) Q := wbd (by rw [eqlB]; simp) hf
end
theorem Fix.re {m : Nat} {h h' : PHeap} {p : PV} {xs : List Int} (s : Fix m h p xs) (k : Keep m h h') (hm : m ≤ h.length) : Fix h'.length h' p xs := fun h2 k2 => s h2 (k.trans (k2.mono (Nat.le_trans hm k.1)))
theorem tabF {g : Nat → PV} {h h1 : PHeap} (t : TabOk g h) (k : Keep h.length h h1) : ∀ h2, Keep h1.length h1 h2 → TabOk g h2 := fun _ k2 => (t.keep k).keep k2

variable (g : Nat → PV) (lf n : Nat)

/-! ### the draws -/
end Go.Proofs.YtlefknibddkjpaaDoor

/- The laws of chapter 3 over what the program's functions are asked to compute: promises 16, 17, 18 and 21. -/
set_option maxRecDepth 20000
namespace Go.Proofs.YtlefknibddkjpaaDoor
open Go Go.Ip G

variable (g : Nat → PV) (lf n : Nat)

end Go.Proofs.YtlefknibddkjpaaDoor

/- The laws of chapter 3 over what the program's functions are asked to compute: promises 18, 19, 20 and 22. -/
set_option maxRecDepth 20000
namespace Go.Proofs.YtlefknibddkjpaaDoor
open Go Go.Ip G

theorem Fix.get {b : Nat} {h h' : PHeap} {p : PV} {xs : List Int} (s : Fix b h p xs) (k : Keep b h h') : IntSl .i64 h' p xs := s h' k
variable (g : Nat → PV) (lf n : Nat)

end Go.Proofs.YtlefknibddkjpaaDoor

/- The boards that the model draws for chapters 4 and 5, and the draws. -/
set_option maxRecDepth 20000
namespace Go.Proofs.YtlefknibddkjpaaDoor
open Go Go.Ip Go.RowKit G

variable (g : Nat → PV) (lf n : Nat)

end Go.Proofs.YtlefknibddkjpaaDoor

/- Stolen plans and pairs that answer: what chapter 4's functions tell, and what holds of it. No program text. -/
set_option maxRecDepth 20000
namespace Go.Proofs.YtlefknibddkjpaaDoor
open Go Go.Ip G

/-! ### pairs -/
/-! ### pairs that are shared -/
/-! ### openings -/
end Go.Proofs.YtlefknibddkjpaaDoor

/- Fillings: how many of them a player wins, which cells matter, and that stones on cells that do not matter change nothing. No program text. -/
set_option maxRecDepth 20000
namespace Go.Proofs.YtlefknibddkjpaaDoor
open Go Go.Ip G

/-! ### counting over all fillings of some cells -/
/-! ### what a stone more is worth -/
/-! ### each filling is won by one -/
/-- A position whose free cells are those of a list. -/
structure Cover (R C a b : Nat) (l : List Nat) : Prop where
  pos : Pos R C a b
  nodup : l.Nodup
  free : ∀ j, j ∈ l ↔ j < R * C ∧ (a ||| b).testBit j = false
theorem Cover.put {R C a b c : Nat} {l : List Nat} (h : Cover R C a b (c :: l)) (t : Nat) : Cover R C (putA t c a) (putB t c b) l := by
  have hc := (h.free c).1 (List.mem_cons_self ..)
  have hnd := List.nodup_cons.1 h.nodup
  refine ⟨h.pos.put hc.1 hc.2, hnd.2, fun j => ?_⟩
  rw [put_bit, Bool.or_eq_false_iff, decide_eq_false_iff_not]
  constructor
  · intro hj
    have := (h.free j).1 (List.mem_cons_of_mem _ hj)
    exact ⟨this.1, this.2, fun e => hnd.1 (e ▸ hj)⟩
  · rintro ⟨h1, h2, h3⟩
    exact (List.mem_cons.1 ((h.free j).2 ⟨h1, h2⟩)).resolve_left h3
/-! ### the free cells of a set, as a list -/
/-! ### played to the last cell -/
end Go.Proofs.YtlefknibddkjpaaDoor

/- What chapter 5's functions tell of a position (countL, pivotL, mattersL, deadL), and what holds of them. No program text. -/
set_option maxRecDepth 20000
namespace Go.Proofs.YtlefknibddkjpaaDoor
open Go Go.Ip G

section
variable {R C : Nat} {xs : List Int} (hb : posB (R : Int) (C : Int) xs = true) (hS : Sides (R : Int) (C : Int) R C xs)
include hS
omit hS
include hb
include hS
/-! ### turned and mirrored -/
/-! ### dead cells -/
end

end Go.Proofs.YtlefknibddkjpaaDoor

/- Carriers and threats: what holds of positions whose free cells outside a set are given to the other player. No program text. -/
set_option maxRecDepth 20000
namespace Go.Proofs.YtlefknibddkjpaaDoor
open Go Go.Ip G

section
variable {R C : Nat} {xs ys : List Int} (hb : posB (R : Int) (C : Int) xs = true) (hb' : posB (R : Int) (C : Int) ys = true)
include hb
include hb'
end

section
variable {xs : List Int} {P : Nat} (hP : P = 1 ∨ P = 2)
include hP
end
section
variable {R C P : Nat} {xs : List Int} (hb : posB (R : Int) (C : Int) xs = true) (hP : P = 1 ∨ P = 2)
include hb hP
end

end Go.Proofs.YtlefknibddkjpaaDoor

/- The program's sets of cells: the cells with a stone, the sides, growing and gaps, walked through with the rules of XW. -/
set_option maxRecDepth 20000
namespace Go.Proofs.YtlefknibddkjpaaDoor
open Go Go.Ip G

/-! ### sets, without program text -/
variable (g : Nat → PV) (lf n : Nat)

/-! ### the program -/
theorem playerOk_W (N : Nat) (hN : 1 ≤ N) (h : PHeap) (p : Int) : CL g lf N fn_impl_playerOk [.int .i64 p] h = some (.bool (playerB p), h) := by
  obtain ⟨n, rfl⟩ : ∃ n, N = n + 1 := ⟨N - 1, by omega⟩
  have : W (CL g lf (n + 1) fn_impl_playerOk [.int .i64 p] h) fun v h' => v = .bool (playerB p) ∧ h' = h := by
    rw [impl_playerOk.call_eq]
    unfold impl_playerOk.main
    simp only [env_pick, env_bin]
    refine weql (fun e => ?_) (fun e => ?_)
    · repeat (first | with_reducible refine wg0 rfl ?_ | with_reducible refine wpT ?_ | with_reducible refine wsm ?_ | with_reducible refine wrB ?_ | dsimp only)
      exact W.ret ⟨by subst e; rfl, rfl⟩
    · repeat (first | with_reducible refine wg1 rfl ?_ | with_reducible refine wpv ?_ | with_reducible refine wsm ?_ | dsimp only)
      refine weql (fun e2 => ?_) (fun e2 => ?_)
      · repeat (first | with_reducible refine wpF ?_ | with_reducible refine wrB ?_)
        exact W.ret ⟨by subst e2; rfl, rfl⟩
      · repeat (first | with_reducible refine wpF ?_ | with_reducible refine wrB ?_)
        exact W.ret ⟨by rw [show playerB p = false by unfold playerB; exact decide_eq_false (by omega)], rfl⟩
  obtain ⟨_, _, e, rfl, rfl⟩ := this
  exact e

theorem setOf_W {xs : List Int} {p : PV} {h : PHeap} (what : Int) (hp : IntSl .i64 h p xs) (hl : xs.length ≤ 20) (N : Nat) (hN : 1 ≤ N) (hlf : 1000 < lf) :
    CL g lf N fn_impl_setOf [p, .int .i64 what] h = some (.int .i64 (setL xs what : Int), h) := by
  obtain ⟨n, rfl⟩ : ∃ n, N = n + 1 := ⟨N - 1, by omega⟩
  have : W (CL g lf (n + 1) fn_impl_setOf [p, .int .i64 what] h) fun v h' => v = .int .i64 (setL xs what : Int) ∧ h' = h := by
    rw [impl_setOf.call_eq]
    unfold impl_setOf.main
    simp only [env_lf, env_len]
    repeat (first | with_reducible refine wlen (by assumption) ?_)
    refine loopW (fun m s => ∃ i w : Nat, s = impl_setOf.st0 (.int .i64 what) (.int .i64 (w : Int)) p (.int .i64 (xs.length : Int)) (.int .i64 (i : Int)) h ∧ i + m = xs.length ∧ w < 2 ^ 30 ∧ setFrom what i (xs.drop i) w = setL xs what) ?_ lf xs.length _ (by omega) ⟨0, 0, rfl, by omega, by decide, rfl⟩
    rintro n1 m s ⟨i, w, rfl, him, hw, hset⟩ next
    rw [impl_setOf.body0_eq]
    unfold impl_setOf.body0
    simp only [env_load, env_bin, env_indexAddr]
    by_cases hi : i < xs.length
    · have hdx : xs.drop i = xs[i] :: xs.drop (i + 1) := List.drop_eq_getElem_cons hi
      have h30 : 1 <<< i < 2 ^ 30 := by rw [Nat.one_shiftLeft]; exact Nat.pow_lt_pow_right (by decide) (by omega)
      rw [hdx, setFrom] at hset
      repeat (first | with_reducible refine wT ?_ | with_reducible refine wbd (by assumption) ?_ | (with_reducible refine wat hp hi fun a hl => ?_) | with_reducible refine wlssT (by omega) ?_)
      refine weql (fun e => ?_) (fun e => ?_)
      · repeat (first | with_reducible refine wT ?_ | with_reducible refine wadd1 (by omega) ?_ | with_reducible refine wshl (by omega) ?_ | with_reducible refine wor (by omega) (by omega) ?_)
        rw [if_pos e] at hset
        exact next _ _ (show m - 1 < m by omega) ⟨i + 1, _, rfl, by omega, Nat.or_lt_two_pow hw h30, hset⟩
      · repeat (first | with_reducible refine wF ?_ | with_reducible refine wadd1 (by omega) ?_)
        rw [if_neg e] at hset
        exact next _ _ (show m - 1 < m by omega) ⟨i + 1, _, rfl, by omega, hw, hset⟩
    · rw [List.drop_eq_nil_of_le (by omega), setFrom] at hset
      repeat (first | with_reducible refine wF ?_ | with_reducible refine wrI ?_ | with_reducible refine wlssF (by omega) ?_ | rw [kLoop_exit] | rw [impl_setOf.after0_se0_1_5_8_9_10_11])
      exact W.ret ⟨by rw [hset], rfl⟩
  obtain ⟨_, _, e, rfl, rfl⟩ := this
  exact e

end Go.Proofs.YtlefknibddkjpaaDoor

/- The model's chapters 4 and 5: what Openings, PairCell, PairFilled, MattersAt, DeadCells, FillCount and PivotCount of it compute. -/
set_option maxRecDepth 20000
namespace Go.Proofs.YtlefknibddkjpaaDoor
open Go Go.Ip G

section
variable {Q : PV → PHeap → Prop} {x y : Nat} {f : PV → Res}
theorem wquo2 (h2 : x < 9223372036854775808) (hf : W (f (.int .i64 ((x / 2 : Nat) : Int))) Q) : W ((binP Tryd.prog .quo 3 (.int .i64 (x : Int)) (.int .i64 2)).bind f) Q :=
  wbd (by
    rw [bin_quo (by decide)]
    have : (x : Int).tdiv 2 = ((x / 2 : Nat) : Int) := rfl
    rw [this]
    have : IntKind.i64.wrap ((x / 2 : Nat) : Int) = ((x / 2 : Nat) : Int) := wr (by omega)
    rw [this]) hf
end

variable (g : Nat → PV) (lf n : Nat)

/-! ### pairs -/
/-! ### fillings -/
/-! ### what one cell decides -/
end Go.Proofs.YtlefknibddkjpaaDoor

/- The laws of chapter 4 over what the program's functions are asked to compute. -/
set_option maxRecDepth 20000
namespace Go.Proofs.YtlefknibddkjpaaDoor
open Go Go.Ip G

variable (g : Nat → PV) (lf n : Nat)

/-! ### the exact laws -/
/-- Of two functions that make one list of numbers. -/
theorem exact_chain4 {L : List Int} {h : PHeap} (N : Nat) (hN : 1 ≤ N) (fS fI : PHeap → Res)
    (hS : ∀ hh, Keep h.length h hh → ∃ w h', fS hh = some (w, h') ∧ OwnSl hh.length h' w L ∧ Keep hh.length hh h')
    (hI : ∀ hh, Keep h.length h hh → ∃ w h', fI hh = some (w, h') ∧ OwnSl hh.length h' w L ∧ Keep hh.length hh h')
    (hL : L.length ≤ 1048576) (hf : 1048576 < lf) :
    ∃ w h2 g0 h4 h7 g1 h9, fS h = some (w, h2) ∧ fI h2 = some (g0, h4) ∧ CL g lf N fn_laws_eqIntS [g0, w] h4 = some (.bool true, h4) ∧
      CL g lf N fn_laws_markIntS [g0, .int .i64 1] h4 = some (.int .i64 (1 + L.length), h7) ∧ CL g lf N fn_laws_heldIntS [g0, .int .i64 1] h7 = some (.int .i64 (1 + L.length), h7) ∧
      fI h7 = some (g1, h9) ∧ CL g lf N fn_laws_eqIntS [g1, w] h9 = some (.bool true, h9) ∧ CL g lf N fn_laws_heldIntS [g0, .int .i64 1] h9 = some (.int .i64 (1 + L.length), h9) := by
  obtain ⟨n, rfl⟩ : ∃ n, N = n + 1 := ⟨N - 1, by omega⟩
  obtain ⟨w, h2, e2, ow, k2⟩ := hS h (Keep.refl _ _)
  obtain ⟨g0, h4, e4, og, k4⟩ := hI h2 k2
  have K4 : Keep h.length h h4 := k2.trans (k4.mono k2.1)
  have w2 := ow.b
  have w4 := w2.keep k4
  have g4 := og.b
  have s4 := eqIntS_calls g lf n og.int w4.int (by omega) (by omega)
  obtain ⟨h7, e7, g7, t7⟩ := markIntS_calls g lf (n + 1) (by omega) g4 (by omega) (by omega)
  have K7 : Keep h.length h h7 := K4.trans (t7.keep.mono k2.1)
  have w7 := w4.only t7 (.inl (Nat.le_refl _))
  have s7 := heldIntS_calls g lf (n + 1) (by omega) g7.int (by omega) (by omega)
  obtain ⟨g1, h9, e9, o9, k9⟩ := hI h7 K7
  have len7 : h4.length ≤ h7.length := by rw [t7.1]; exact Nat.le_refl _
  have w9 := w7.keep (k9.mono (Nat.le_trans k4.1 len7))
  have g9 := g7.keep (k9.mono len7)
  have s9 := eqIntS_calls g lf n o9.int w9.int (by omega) (by omega)
  have s10 := heldIntS_calls g lf (n + 1) (by omega) g9.int (by omega) (by omega)
  simp only [decide_true] at s4 s9
  exact ⟨w, h2, g0, h4, h7, g1, h9, e2, e4, s4, e7, s7, e9, s9, s10⟩

end Go.Proofs.YtlefknibddkjpaaDoor

/- The laws of chapter 5 over what the program's functions are asked to compute. -/
set_option maxRecDepth 20000
namespace Go.Proofs.YtlefknibddkjpaaDoor
open Go Go.Ip G

section
variable {R C : Nat} {xs : List Int} (hb : posB (R : Int) (C : Int) xs = true)
include hb
end

variable (g : Nat → PV) (lf n : Nat)

/-! ### the exact laws -/
end Go.Proofs.YtlefknibddkjpaaDoor

/- The draws of chapter 6. -/
set_option maxRecDepth 20000
namespace Go.Proofs.YtlefknibddkjpaaDoor
open Go Go.Ip G

section
variable {Q : PV → PHeap → Prop} {x : Nat} {f : PV → Res}
end

variable (g : Nat → PV) (lf n : Nat)

end Go.Proofs.YtlefknibddkjpaaDoor

/- Least sets of cells, cells that must be taken, and bridges. No program text. -/
set_option maxRecDepth 20000
namespace Go.Proofs.YtlefknibddkjpaaDoor
open Go Go.Ip G

/-! ### every set of free cells is told by a number -/
/-! ### the least one -/
section
variable {R C P : Nat} {xs : List Int} (hb : posB (R : Int) (C : Int) xs = true) (hP : P = 1 ∨ P = 2)
include hb
include hP
end

/-! ### cells that must be taken -/
end Go.Proofs.YtlefknibddkjpaaDoor

/- Bridges. No program text. -/
set_option maxRecDepth 20000
namespace Go.Proofs.YtlefknibddkjpaaDoor
open Go Go.Ip G

/-! ### the count that the law makes -/
/-! ### the list that grows -/
end Go.Proofs.YtlefknibddkjpaaDoor

/- The model's chapter 6: what CarrierOk, ThreatOk, LeastCarrier, LeastThreat, BridgesOf and MustCells of it compute. -/
set_option maxRecDepth 20000
namespace Go.Proofs.YtlefknibddkjpaaDoor
open Go Go.Ip G

/-! ### lists, while they are written -/
variable (g : Nat → PV) (lf n : Nat)

/-! ### what is left to a player -/
/-! ### sets that may carry -/
/-! ### least sets -/
/-! ### bridges -/
/-! ### cells that must be taken -/
end Go.Proofs.YtlefknibddkjpaaDoor

/- The laws of chapter 6 over what the program's functions are asked to compute. -/
set_option maxRecDepth 20000
namespace Go.Proofs.YtlefknibddkjpaaDoor
open Go Go.Ip G

variable (g : Nat → PV) (lf n : Nat)

/-! ### the exact laws -/
end Go.Proofs.YtlefknibddkjpaaDoor

/- The laws of chapter 6 over what the program's functions are asked to compute, continued. -/
set_option maxRecDepth 20000
namespace Go.Proofs.YtlefknibddkjpaaDoor
open Go Go.Ip G

variable (g : Nat → PV) (lf n : Nat)

end Go.Proofs.YtlefknibddkjpaaDoor

/- The laws of chapter 6 over what the program's functions are asked to compute, continued. -/
set_option maxRecDepth 20000
namespace Go.Proofs.YtlefknibddkjpaaDoor
open Go Go.Ip G

variable (g : Nat → PV) (lf n : Nat)

end Go.Proofs.YtlefknibddkjpaaDoor

/- Triangles: cells, neighbours, shrinking, turning; what holds of all fillings of at most four rows, told by the kernel. -/
set_option maxRecDepth 20000
namespace Go.Proofs.YtlefknibddkjpaaDoor
open Go Go.Ip

def cellsT (s : Nat) : Nat := s * (s + 1) / 2
def placeF : Nat → Nat → Nat → Nat × Nat
  | 0, r, c => (r, c)
  | f + 1, r, c => if r < c then placeF f (r + 1) (c - r - 1) else (r, c)
def rowT (k : Nat) : Nat := (placeF 10 0 k).1
def plT (k : Nat) : Nat := (placeF 10 0 k).2
def adjT (a b : Nat) : Bool :=
  (rowT b == rowT a && (plT b + 1 == plT a || plT b == plT a + 1)) || (rowT b + 1 == rowT a && (plT b + 1 == plT a || plT b == plT a)) || (rowT b == rowT a + 1 && (plT b == plT a || plT b == plT a + 1))
def maskF (a : Nat) : Nat → Nat → Nat → Nat
  | 0, _, w => w
  | m + 1, b, w => maskF a m (b + 1) (if adjT a b = true then w ||| (1 <<< b) else w)
def maskT (s a : Nat) : Nat := maskF a (cellsT s) 0 0
def masksT (s : Nat) : List Nat := (List.range (cellsT s)).map (maskT s)
def growT (M : List Nat) (set fr : Nat) : Nat := growF M set 1100 (fr &&& set)
def leftT (s g : Nat) : Bool := (List.range (cellsT s)).any fun k => g.testBit k && plT k == 0
def rightT (s g : Nat) : Bool := (List.range (cellsT s)).any fun k => g.testBit k && plT k == rowT k
def downT (s g : Nat) : Bool := (List.range (cellsT s)).any fun k => g.testBit k && rowT k + 1 == s
def allT (s g : Nat) : Bool := leftT s g && rightT s g && downT s g
def joinT (s own : Nat) : Bool := (List.range (cellsT s)).any fun c => allT s (growT (masksT s) own (1 <<< c))

/-- A set, bit by bit. -/
def bitsF (f : Nat → Bool) : Nat → Nat
  | 0 => 0
  | m + 1 => bif f m then bitsF f m ||| (1 <<< m) else bitsF f m
def twoOf (a b c : Bool) : Bool := (a && b) || (a && c) || (b && c)
def belowT (k : Nat) : Nat := cellsT (rowT k + 1) + plT k
def shrT (s A : Nat) : Nat := bitsF (fun k => twoOf (A.testBit k) (A.testBit (belowT k)) (A.testBit (belowT k + 1))) (cellsT (s - 1))
def turnK (s k : Nat) : Nat := cellsT (s - 1 - plT k) + rowT k - plT k
def turnT (s A : Nat) : Nat := bitsF (fun k => A.testBit (turnK s k)) (cellsT s)
def lastT : Nat → Nat → Bool
  | 0, _ => false
  | 1, A => A.testBit 0
  | s + 2, A => lastT (s + 1) (shrT (s + 2) A)
def otherT (s A : Nat) : Nat := 2 ^ cellsT s - 1 - A

def allTri (P : Nat → Nat → Bool) : Bool := (List.range 5).all fun s => (List.range (2 ^ cellsT s)).all fun A => s == 0 || P s A
theorem allTri_at {P : Nat → Nat → Bool} (h : allTri P = true) {s A : Nat} (h1 : 1 ≤ s) (h2 : s ≤ 4) (hA : A < 2 ^ cellsT s) : P s A = true := by
  have h3 := List.all_eq_true.1 (List.all_eq_true.1 h s (List.mem_range.2 (by omega))) A (List.mem_range.2 hA)
  rcases Bool.or_eq_true_iff.1 h3 with e | e
  · have := beq_iff_eq.1 e; omega
  · exact e

theorem join_all : allTri (fun s A => joinT s A == lastT s A) = true := by kernel_rfl
theorem other_all : allTri (fun s A => lastT s (otherT s A) == !lastT s A) = true := by kernel_rfl
theorem shr_all : allTri (fun s A => s == 1 || (shrT s (otherT s A) == otherT (s - 1) (shrT s A) && decide (shrT s A < 2 ^ cellsT (s - 1)))) = true := by kernel_rfl
theorem turn_all : allTri (fun s A => turnT s (turnT s (turnT s A)) == A && decide (turnT s A < 2 ^ cellsT s) && turnT s (otherT s A) == otherT s (turnT s A) && lastT s (turnT s A) == lastT s A) = true := by kernel_rfl
theorem more_all : allTri (fun s A => !lastT s A || (List.range (cellsT s)).all fun k => lastT s (A ||| (1 <<< k))) = true := by kernel_rfl

def popT (x : Nat) : Nat := (List.range 10).countP fun j => x.testBit j
def winsT (s f : Nat) : Nat := (List.range (2 ^ cellsT s)).countP fun A => popT A == f && lastT s A
def waysF (c f : Nat) : Nat → Nat → Nat → Nat
  | 0, _, w => w
  | m + 1, k, w => waysF c f m (k + 1) (w * (c - f + k) / k)
def waysT (c f : Nat) : Nat := waysF c f f 1 1
theorem wins_all : ((List.range 5).all fun s => s == 0 || (List.range (cellsT s + 1)).all fun f => winsT s f + winsT s (cellsT s - f) == waysT (cellsT s) f && (decide (s ≤ f) || winsT s f == 0)) = true := by kernel_rfl
theorem half_all : ((List.range 5).all fun s => s == 0 || (2 * ((List.range (cellsT s + 1)).foldl (fun a k => a + winsT s k) 0) == 2 ^ cellsT s && winsT s (cellsT s) == 1 && winsT s 0 == 0)) = true := by kernel_rfl
/-- The neighbours in a triangle. -/
def cornerB (s k : Nat) : Bool := k == 0 || k + 1 == cellsT s || k + s == cellsT s
theorem near_tri : ((List.range 5).all fun s => s == 0 || (List.range (cellsT s)).all fun k => (List.range (cellsT s)).all fun j => (maskT s k).testBit j == (maskT s j).testBit k && !(maskT s k).testBit k && decide (popT (maskT s k) ≤ 6) && (cornerB s k || decide (4 ≤ popT (maskT s k))) && (!cornerB s k || s == 1 || popT (maskT s k) == 2) && decide (maskT s k < 2 ^ cellsT s)) = true := by kernel_rfl

end Go.Proofs.YtlefknibddkjpaaDoor

/- Triangles as lists: fillings and their sets; what the functions of chapter 7 are, and what holds of them. -/
set_option maxRecDepth 20000
namespace Go.Proofs.YtlefknibddkjpaaDoor
open Go Go.Ip

def fillT (n A : Nat) : List Int := (List.range n).map fun k => if A.testBit k = true then 1 else 2
def triB (side : Int) (xs : List Int) : Bool := (xs.all fun x => decide (1 ≤ x ∧ x ≤ 2)) && (decide (1 ≤ side ∧ side ≤ 4) && decide (xs.length = cellsT side.toNat))
def joinsAllL (side : Int) (xs : List Int) (pl : Int) : Bool := triB side xs && playerB pl && joinT side.toNat (setL xs pl)
def shrunkL (side : Int) (xs : List Int) : List Int := if (triB side xs && decide (2 ≤ side)) = true then fillT (cellsT (side.toNat - 1)) (shrT side.toNat (setL xs 1)) else []
def lastL (side : Int) (xs : List Int) : Int := if triB side xs = true then (if lastT side.toNat (setL xs 1) = true then 1 else 2) else 0
def turnedL (side : Int) (xs : List Int) : List Int := if triB side xs = true then fillT (cellsT side.toNat) (turnT side.toNat (setL xs 1)) else []
def winsL (side f : Int) : Int := if (decide (1 ≤ side ∧ side ≤ 4) && decide (0 ≤ f ∧ f ≤ (cellsT side.toNat : Int))) = true then (winsT side.toNat f.toNat : Int) else -1

theorem fillT_length (n A : Nat) : (fillT n A).length = n := by simp [fillT]
theorem fillT_get {n A k : Nat} (hk : k < n) : (fillT n A)[k]? = some (if A.testBit k = true then 1 else 2) := by
  unfold fillT; rw [List.getElem?_map, List.getElem?_range hk]; rfl
theorem fillT_all (n A : Nat) : ((fillT n A).all fun x => decide (1 ≤ x ∧ x ≤ 2)) = true := by
  rw [List.all_eq_true]
  intro x hx
  unfold fillT at hx
  rw [List.mem_map] at hx
  obtain ⟨k, _, rfl⟩ := hx
  split <;> decide
theorem set_fill1 {n A : Nat} (hA : A < 2 ^ n) : setL (fillT n A) 1 = A := by
  apply Nat.eq_of_testBit_eq
  intro j
  rw [Bool.eq_iff_iff, setL_bit]
  by_cases hj : j < n
  · rw [fillT_get hj]
    cases A.testBit j <;> simp
  · rw [List.getElem?_eq_none (by rw [fillT_length]; omega), Nat.testBit_lt_two_pow (Nat.lt_of_lt_of_le hA (Nat.pow_le_pow_right (by decide) (by omega)))]
    simp
theorem not_bit {n A j : Nat} (hA : A < 2 ^ n) : (2 ^ n - 1 - A).testBit j = (decide (j < n) && !A.testBit j) := by
  rw [show 2 ^ n - 1 - A = 2 ^ n - (A + 1) by omega, Nat.testBit_two_pow_sub_succ hA]
theorem set_fill2 {n A : Nat} (hA : A < 2 ^ n) : setL (fillT n A) 2 = 2 ^ n - 1 - A := by
  apply Nat.eq_of_testBit_eq
  intro j
  rw [Bool.eq_iff_iff, setL_bit, not_bit hA]
  by_cases hj : j < n
  · rw [fillT_get hj]
    cases A.testBit j <;> simp [hj]
  · rw [List.getElem?_eq_none (by rw [fillT_length]; omega)]
    simp [hj]
/-- A full triangle is one of the fillings. -/
theorem fill_of {xs : List Int} (h : (xs.all fun x => decide (1 ≤ x ∧ x ≤ 2)) = true) : xs = fillT xs.length (setL xs 1) := by
  apply List.ext_getElem?
  intro j
  by_cases hj : j < xs.length
  · rw [fillT_get hj, List.getElem?_eq_getElem hj]
    have h1 := of_decide_eq_true (List.all_eq_true.1 h _ (List.getElem_mem hj))
    by_cases e : xs[j] = 1
    · rw [setL_bit.2 (by rw [List.getElem?_eq_getElem hj, e]), if_pos rfl, e]
    · have : (setL xs 1).testBit j = false := by
        cases hb : (setL xs 1).testBit j with
        | false => rfl
        | true => rw [setL_bit, List.getElem?_eq_getElem hj] at hb; exact absurd (Option.some.inj hb) e
      rw [this, if_neg (by decide)]
      congr 1; omega
  · rw [List.getElem?_eq_none (by omega), List.getElem?_eq_none (by rw [fillT_length]; omega)]
/-- What is known of a full triangle. -/
def Tri (side : Int) (xs : List Int) (s A : Nat) : Prop := side = (s : Int) ∧ 1 ≤ s ∧ s ≤ 4 ∧ A < 2 ^ cellsT s ∧ xs = fillT (cellsT s) A ∧ xs.length = cellsT s ∧ setL xs 1 = A ∧ setL xs 2 = otherT s A
theorem tri_of {side : Int} {xs : List Int} (h : triB side xs = true) : ∃ s A, Tri side xs s A := by
  unfold triB at h
  simp only [Bool.and_eq_true, decide_eq_true_eq] at h
  obtain ⟨h1, h2, h3⟩ := h
  obtain ⟨s, rfl⟩ := Int.eq_ofNat_of_zero_le (show 0 ≤ side by omega)
  have h3 : xs.length = cellsT s := h3
  have hx := fill_of h1
  have hlt : setL xs 1 < 2 ^ cellsT s := setL_lt 1 (by omega)
  rw [h3] at hx
  refine ⟨s, setL xs 1, rfl, by omega, by omega, hlt, hx, h3, rfl, ?_⟩
  have := set_fill2 hlt
  rw [← hx] at this
  exact this
theorem tri_fill {s A : Nat} (h1 : 1 ≤ s) (h2 : s ≤ 4) (hA : A < 2 ^ cellsT s) : triB (s : Int) (fillT (cellsT s) A) = true := by
  unfold triB
  rw [fillT_all, decide_eq_true (by omega), fillT_length]
  simp
theorem Tri.ok {side : Int} {xs : List Int} {s A : Nat} (h : Tri side xs s A) : triB side xs = true := by
  obtain ⟨rfl, h1, h2, h3, rfl, _⟩ := h; exact tri_fill h1 h2 h3
theorem Tri.fill {s A : Nat} (h1 : 1 ≤ s) (h2 : s ≤ 4) (hA : A < 2 ^ cellsT s) : Tri (s : Int) (fillT (cellsT s) A) s A :=
  ⟨rfl, h1, h2, hA, rfl, fillT_length _ _, set_fill1 hA, set_fill2 hA⟩
theorem otherT_lt {s A : Nat} : otherT s A < 2 ^ cellsT s := by unfold otherT; have := Nat.two_pow_pos (cellsT s); omega
theorem fill_other {s A : Nat} (hA : A < 2 ^ cellsT s) : (fillT (cellsT s) A).map (fun x => 1 + 2 - x) = fillT (cellsT s) (otherT s A) := by
  unfold fillT otherT
  rw [List.map_map]
  apply List.map_congr_left
  intro k hk
  have hk := List.mem_range.1 hk
  simp only [Function.comp, not_bit hA, hk, decide_true, Bool.true_and]
  cases A.testBit k <;> simp

section
variable {side : Int} {xs : List Int} {s A : Nat} (h : Tri side xs s A)
include h
theorem tri_joins {P : Nat} (hP : P = 1 ∨ P = 2) : joinsAllL side xs (P : Int) = (if P = 1 then lastT s A else !lastT s A) := by
  have ok := h.ok
  obtain ⟨rfl, h1, h2, h3, rfl, _, h5, h6⟩ := h
  unfold joinsAllL
  rw [ok]
  have e1 := beq_iff_eq.1 (allTri_at join_all h1 h2 h3)
  have e2 := beq_iff_eq.1 (allTri_at join_all h1 h2 (otherT_lt (s := s) (A := A)))
  have e3 := beq_iff_eq.1 (allTri_at other_all h1 h2 h3)
  rcases hP with rfl | rfl
  · rw [show playerB ((1 : Nat) : Int) = true from rfl, show ((1 : Nat) : Int) = 1 from rfl, h5, if_pos rfl]; exact e1
  · rw [show playerB ((2 : Nat) : Int) = true from rfl, show ((2 : Nat) : Int) = 2 from rfl, h6, if_neg (by decide)]
    show joinT s (otherT s A) = _
    rw [e2, e3]
theorem tri_last : lastL side xs = if lastT s A = true then 1 else 2 := by
  have ok := h.ok
  obtain ⟨rfl, h1, h2, h3, rfl, _, h5, h6⟩ := h
  unfold lastL; rw [ok, if_pos rfl, h5]; rfl
theorem tri_shrunk (h2' : 2 ≤ s) : shrunkL side xs = fillT (cellsT (s - 1)) (shrT s A) := by
  have ok := h.ok
  obtain ⟨rfl, h1, h2, h3, rfl, _, h5, h6⟩ := h
  unfold shrunkL; rw [ok, decide_eq_true (by omega), h5]; rfl
theorem tri_turned : turnedL side xs = fillT (cellsT s) (turnT s A) := by
  have ok := h.ok
  obtain ⟨rfl, h1, h2, h3, rfl, _, h5, h6⟩ := h
  unfold turnedL; rw [ok, h5]; rfl
theorem shr_lt (h2' : 2 ≤ s) : shrT s A < 2 ^ cellsT (s - 1) ∧ shrT s (otherT s A) = otherT (s - 1) (shrT s A) := by
  obtain ⟨rfl, h1, h2, h3, rfl, _⟩ := h
  have := allTri_at shr_all h1 h2 h3
  simp only [Bool.or_eq_true, Bool.and_eq_true, beq_iff_eq, decide_eq_true_eq] at this
  rcases this with e | ⟨e1, e2⟩
  · omega
  · exact ⟨e2, e1⟩
theorem turn_lt : turnT s A < 2 ^ cellsT s ∧ turnT s (turnT s (turnT s A)) = A ∧ turnT s (otherT s A) = otherT s (turnT s A) ∧ lastT s (turnT s A) = lastT s A := by
  obtain ⟨rfl, h1, h2, h3, rfl, _⟩ := h
  have := allTri_at turn_all h1 h2 h3
  simp only [Bool.and_eq_true, beq_iff_eq, decide_eq_true_eq] at this
  exact ⟨this.1.1.2, this.1.1.1, this.1.2, this.2⟩
theorem more_last {k : Nat} (hk : k < cellsT s) (hl : lastT s A = true) : lastT s (A ||| (1 <<< k)) = true := by
  obtain ⟨rfl, h1, h2, h3, rfl, _⟩ := h
  have := allTri_at more_all h1 h2 h3
  rw [hl, Bool.not_true, Bool.false_or] at this
  exact List.all_eq_true.1 this k (List.mem_range.2 hk)
end
theorem last_shr {s A : Nat} (h : 2 ≤ s) : lastT s A = lastT (s - 1) (shrT s A) := by
  match s, h with
  | s + 2, _ => rfl

end Go.Proofs.YtlefknibddkjpaaDoor

/- The model's chapter 7: triangles; growing and listing sets of ten cells. -/
set_option maxRecDepth 20000
namespace Go.Proofs.YtlefknibddkjpaaDoor
open Go Go.Ip G

def listT (set : Nat) : List Int := listFrom set 10 0

variable (g : Nat → PV) (lf n : Nat)

theorem growT_inner {M : List Nat} {p : PV} {h : PHeap} (hp : IntSl .i64 h p (ints M)) (hM : ∀ m ∈ M, m < 2 ^ 10) (hl : M.length ≤ 10) {set now : Nat} (hs : set < 2 ^ 10) (K : PX → St → Res) : ∀ (m k fuel nx : Nat), k + m = M.length → m < fuel → nx < 2 ^ 10 →
    loopK (ev ((env g lf n).cx Tryd.prog spec_l2Grow.kl) spec_l2Grow.lp1) fuel (spec_l2Grow.st1 p (.int .i64 (set : Int)) (.int .i64 (now : Int)) (.int .i64 (nx : Int)) (.int .i64 (k : Int)) h) (spec_l2Grow.K1 (env g lf n) K) =
      K .normal (spec_l2Grow.st0 p (.int .i64 (set : Int)) (.int .i64 (stepFrom set now k (M.drop k) nx : Int)) (.bool (!decide (stepFrom set now k (M.drop k) nx = now))) h)
  | 0, k, fuel, nx', hkm, hf, hnx => by
    obtain ⟨f, rfl⟩ : ∃ f, fuel = f + 1 := ⟨fuel - 1, by omega⟩
    rw [loopK_succ, spec_l2Grow.body1_eq]
    have f1 : binP Tryd.prog .lss 3 (.int .i64 (k : Int)) (.int .i64 ((ints M).length : Int)) = some (.bool false) := by rw [bin_lss, ints_length, decide_eq_false (by omega)]
    have f2 : binP Tryd.prog .neq 3 (.int .i64 (nx' : Int)) (.int .i64 (now : Int)) = some (.bool (!decide (nx' = now))) := by
      rw [bin_neq, bne, natEq]
    unfold spec_l2Grow.body1
    refine bd hp.len' (bd f1 (cdF ?_))
    rw [kLoop_exit, spec_l2Grow.after1_se2_0_1_7_9_10_19, List.drop_eq_nil_of_le (by omega), stepFrom]
    exact bd f2 rfl
  | m + 1, k, fuel, nx', hkm, hf, hnx => by
    obtain ⟨f, rfl⟩ : ∃ f, fuel = f + 1 := ⟨fuel - 1, by omega⟩
    have hk : k < M.length := by omega
    obtain ⟨a, ha, hla⟩ := hp.at' (show k < (ints M).length by rw [ints_length]; exact hk)
    rw [ints_get hk] at hla
    have hmk : M.getD k 0 < 2 ^ 10 := by
      rw [List.getD_eq_getElem?_getD, List.getElem?_eq_getElem hk]; exact hM _ (List.getElem_mem hk)
    have hdx : M.drop k = M.getD k 0 :: M.drop (k + 1) := by
      rw [List.getD_eq_getElem?_getD, List.getElem?_eq_getElem hk]; exact List.drop_eq_getElem_cons hk
    have f1 : binP Tryd.prog .lss 3 (.int .i64 (k : Int)) (.int .i64 ((ints M).length : Int)) = some (.bool true) := by rw [bin_lss, ints_length, decide_eq_true (by omega)]
    obtain ⟨b1, b2, b3⟩ := bitq now k (by omega)
    have f4 : binP Tryd.prog .add 3 (.int .i64 (k : Int)) (.int .i64 1) = some (.int .i64 ((k + 1 : Nat) : Int)) := by rw [bin_add, nx (by omega)]
    rw [loopK_succ, spec_l2Grow.body1_eq, hdx, stepFrom]
    unfold spec_l2Grow.body1
    refine bd hp.len' (bd f1 (cdT (bd b1 (bd b2 (bd b3 ?_)))))
    by_cases e : now >>> k % 2 = 1
    · rw [decide_eq_true e, if_pos e]
      have ha2 := f_and (a := M.getD k 0) (b := set) (by omega) (by omega)
      have hlt := Nat.and_lt_two_pow (M.getD k 0) hs
      have ho2 := f_or (a := nx') (b := M.getD k 0 &&& set) (by omega) (by omega)
      refine cdT (bd ha (bd hla (bd ha2 (bd ho2 (bd f4 ?_)))))
      rw [kLoop_normal]
      exact growT_inner hp hM hl hs K m (k + 1) f _ (by omega) (by omega) (Nat.or_lt_two_pow hnx hlt)
    · rw [decide_eq_false e, if_neg e]
      refine cdF (bd f4 ?_)
      rw [kLoop_normal]
      exact growT_inner hp hM hl hs K m (k + 1) f _ (by omega) (by omega) hnx

theorem growT_loop {M : List Nat} {p : PV} {h : PHeap} (hp : IntSl .i64 h p (ints M)) (hM : ∀ m ∈ M, m < 2 ^ 10) (hl : M.length ≤ 10) {set : Nat} (hs : set < 2 ^ 10) (hlf : 20 < lf) : ∀ (f fuel now : Nat), (∀ j, now.testBit j = true → set.testBit j = true) → set < now + f → f + 1 < fuel →
    loopK (ev ((env g lf n).cx Tryd.prog spec_l2Grow.kl) spec_l2Grow.lp0) fuel (spec_l2Grow.st0 p (.int .i64 (set : Int)) (.int .i64 (now : Int)) (.bool true) h) (spec_l2Grow.K0 (env g lf n) (kTop Tryd.prog Tryd.f54)) = some (.int .i64 (growF M set f now : Int), h)
  | 0, fuel, now, hsub, hf, hfu => by have := sub_le hsub; omega
  | f + 1, fuel, now, hsub, hf, hfu => by
    obtain ⟨F, rfl⟩ : ∃ F, fuel = F + 1 := ⟨fuel - 1, by omega⟩
    have hnow : now < 2 ^ 10 := Nat.lt_of_le_of_lt (sub_le hsub) hs
    have inner := growT_inner g lf n hp hM hl (set := set) (now := now) hs (kLoop (ev ((env g lf n).cx Tryd.prog spec_l2Grow.kl) spec_l2Grow.lp0) F (spec_l2Grow.K0 (env g lf n) (kTop Tryd.prog Tryd.f54))) M.length 0 lf now (by omega) (by omega) hnow
    rw [List.drop_zero] at inner
    rw [loopK_succ, spec_l2Grow.body0_eq]
    unfold spec_l2Grow.body0
    refine cdT (inner.trans ?_)
    rw [kLoop_normal, growF]
    by_cases e : stepFrom set now 0 M now = now
    · rw [if_pos e, e, decide_eq_true rfl, Bool.not_true]
      obtain ⟨F', rfl⟩ : ∃ F', F = F' + 1 := ⟨F - 1, by omega⟩
      rw [loopK_succ, spec_l2Grow.body0_eq]
      unfold spec_l2Grow.body0
      refine cdF ?_
      rw [kLoop_exit, spec_l2Grow.after0_se0_0_1_7_14]
      exact bd res_int rfl
    · rw [if_neg e, decide_eq_false e, Bool.not_false]
      have hle := stepFrom_le set now M 0 now
      exact growT_loop hp hM hl hs hlf f F _ (step_sub hsub) (by omega) (by omega)

theorem l2GrowT_calls {M : List Nat} {p : PV} {h : PHeap} (hp : IntSl .i64 h p (ints M)) (hM : ∀ m ∈ M, m < 2 ^ 10) (hl : M.length ≤ 10) {set fr : Nat} (hs : set < 2 ^ 10) (hfr : fr < 2 ^ 62) (N : Nat) (hN : 1 ≤ N) (hlf : 2000 < lf) :
    CL g lf N fn_spec_l2Grow [p, .int .i64 (set : Int), .int .i64 (fr : Int)] h = some (.int .i64 (growT M set fr : Int), h) := by
  obtain ⟨n, rfl⟩ : ∃ n, N = n + 1 := ⟨N - 1, by omega⟩
  rw [spec_l2Grow.call_eq]
  unfold spec_l2Grow.main
  refine bd (f_and (a := fr) (b := set) hfr (by omega)) ?_
  exact growT_loop g lf n hp hM hl hs (by omega) 1100 lf (fr &&& set) (fun j hj => by rw [Nat.testBit_and, Bool.and_eq_true] at hj; exact hj.2) (by omega) (by omega)

theorem listT_loop {set : Nat} (hs : set < 2 ^ 10) : ∀ (m k fuel : Nat) (q : PV) (ys : List Int) (h : PHeap) (b : Nat), k + m = 10 → m < fuel → ys.length ≤ k → OwnSl b h q ys → b ≤ h.length →
    ∃ q' h', loopK (ev ((env g lf n).cx Tryd.prog spec_l2List.kl) spec_l2List.lp0) fuel (spec_l2List.st0 (.int .i64 (set : Int)) q (.int .i64 (k : Int)) h) (spec_l2List.K0 (env g lf n) (kTop Tryd.prog Tryd.f46)) = some (q', h') ∧
      OwnSl b h' q' (ys ++ listFrom set m k) ∧ Keep b h h'
  | m, k, fuel, q, ys, h, b, hkm, hf, hy, ho, hb => by
    obtain ⟨f, rfl⟩ : ∃ f, fuel = f + 1 := ⟨fuel - 1, by omega⟩
    obtain ⟨b1, b2, b3⟩ := bitq set k (by omega)
    have g1 : binP Tryd.prog .gtr 3 (.int .i64 ((set >>> k : Nat) : Int)) (.int .i64 0) = some (.bool (decide (0 < set >>> k))) := by
      rw [bin_gtr]
      congr 2
      apply decide_eq_decide.2
      omega
    by_cases hz : set >>> k = 0
    · refine ⟨q, h, ?_, by rw [listFrom_nil m k hz, List.append_nil]; exact ho, Keep.refl _ _⟩
      rw [loopK_succ, spec_l2List.body0_eq]
      rw [decide_eq_false (by omega)] at g1
      unfold spec_l2List.body0
      refine bd b1 (bd g1 (cdF ?_))
      rw [kLoop_exit, spec_l2List.after0_se0_0_3_4_9]
      exact bd ho.res rfl
    · match m with
      | 0 =>
        obtain rfl : k = 10 := by omega
        exact absurd (by rw [Nat.shiftRight_eq_div_pow]; exact Nat.div_eq_of_lt hs) hz
      | m + 1 =>
        have f4 : binP Tryd.prog .add 3 (.int .i64 (k : Int)) (.int .i64 1) = some (.int .i64 ((k + 1 : Nat) : Int)) := by rw [bin_add, nx (by omega)]
        rw [decide_eq_true (Nat.pos_of_ne_zero hz)] at g1
        rw [listFrom]
        by_cases e : set >>> k % 2 = 1
        · rw [if_pos e]
          rw [decide_eq_true e] at b3
          obtain ⟨v, q2, h2', hb2, ha2, ho2, hk2⟩ := ho.append hb (k : Int) (by omega)
          obtain ⟨q', h', ih, o', k'⟩ := listT_loop hs m (k + 1) f q2 (ys ++ [(k : Int)]) h2' b (by omega) (by omega) (by simp; omega) ho2 (by have := hk2.1; omega)
          refine ⟨q', h', ?_, by simpa using o', hk2.trans k'⟩
          rw [loopK_succ, spec_l2List.body0_eq]
          unfold spec_l2List.body0
          exact bd b1 (bd g1 (cdT (bd b1 (bd b2 (bd b3 (cdT (bd hb2 (bd ha2 (bd f4 ih)))))))))
        · rw [if_neg e]
          rw [decide_eq_false e] at b3
          obtain ⟨q', h', ih, o', k'⟩ := listT_loop hs m (k + 1) f q ys h b (by omega) (by omega) (by omega) ho hb
          refine ⟨q', h', ?_, o', k'⟩
          rw [loopK_succ, spec_l2List.body0_eq]
          unfold spec_l2List.body0
          exact bd b1 (bd g1 (cdT (bd b1 (bd b2 (bd b3 (cdF (bd f4 ih)))))))
termination_by m => m

theorem l2ListT_calls {set : Nat} (hs : set < 2 ^ 10) (N : Nat) (hN : 1 ≤ N) (hlf : 20 < lf) {h : PHeap} :
    ∃ q h', CL g lf N fn_spec_l2List [.int .i64 (set : Int)] h = some (q, h') ∧ OwnSl h.length h' q (listT set) ∧ Keep h.length h h' := by
  obtain ⟨n, rfl⟩ : ∃ n, N = n + 1 := ⟨N - 1, by omega⟩
  rw [spec_l2List.call_eq]
  obtain ⟨q0, h0, e0, o0, k0⟩ := empty_lit (h := h)
  obtain ⟨q', h', e, o, k⟩ := listT_loop g lf n hs 10 0 lf q0 [] h0 h.length (by omega) (by omega) (by simp) o0 k0.1
  refine ⟨q', h', ?_, by simpa [listT] using o, k0.trans k⟩
  unfold spec_l2List.main
  exact bd e0 e


end Go.Proofs.YtlefknibddkjpaaDoor

/- The model's chapter 7: cells, places and neighbours in triangles; which fillings are full. -/
set_option maxRecDepth 20000
namespace Go.Proofs.YtlefknibddkjpaaDoor
open Go Go.Ip G

theorem cellsT_le {s : Nat} (h : s ≤ 4) : cellsT s ≤ 10 := by
  have : s = 0 ∨ s = 1 ∨ s = 2 ∨ s = 3 ∨ s = 4 := by omega
  rcases this with rfl | rfl | rfl | rfl | rfl <;> decide
theorem place_ok : ((List.range 10).all fun k => decide (rowT k ≤ 3) && decide (plT k ≤ rowT k)) = true := by kernel_rfl
theorem place_le {k : Nat} (h : k < 10) : rowT k ≤ 3 ∧ plT k ≤ rowT k := by
  have := List.all_eq_true.1 place_ok k (List.mem_range.2 h)
  simpa using this
theorem adj_iff (a b : Nat) : adjT a b = true ↔ (rowT b = rowT a ∧ (plT b + 1 = plT a ∨ plT b = plT a + 1)) ∨ (rowT b + 1 = rowT a ∧ (plT b + 1 = plT a ∨ plT b = plT a)) ∨ (rowT b = rowT a + 1 ∧ (plT b = plT a ∨ plT b = plT a + 1)) := by
  unfold adjT
  simp only [Bool.or_eq_true, Bool.and_eq_true, beq_iff_eq, or_assoc]

variable (g : Nat → PV) (lf n : Nat)

theorem l7Cells_N {s : Nat} (hs : s ≤ 100) (N : Nat) (hN : 1 ≤ N) (h : PHeap) : CL g lf N fn_spec_l7Cells [.int .i64 (s : Int)] h = some (.int .i64 (cellsT s : Int), h) := by
  obtain ⟨n, rfl⟩ : ∃ n, N = n + 1 := ⟨N - 1, by omega⟩
  have hm : s * (s + 1) < 4611686018427387904 := Nat.lt_of_le_of_lt (Nat.mul_le_mul hs (by omega : s + 1 ≤ 101)) (by decide)
  have : W (CL g lf (n + 1) fn_spec_l7Cells [.int .i64 (s : Int)] h) fun v h' => v = .int .i64 (cellsT s : Int) ∧ h' = h := by
    rw [spec_l7Cells.call_eq]
    unfold spec_l7Cells.main
    simp only [env_bin]
    repeat (first | with_reducible refine wrI ?_ | (with_reducible refine wmulN hm ?_) | (with_reducible refine wquo2 (by omega) ?_) | with_reducible refine wadd1 (by omega) ?_)
    exact W.ret ⟨rfl, rfl⟩
  obtain ⟨_, h', e, rfl, rfl⟩ := this
  exact e

theorem specTriangleOk_N {xs : List Int} {p : PV} {h : PHeap} (N : Nat) (hN : 2 ≤ N) (side : Int) (hp : IntSl .i64 h p xs) (hl : xs.length ≤ 2 ^ 35) (hf : xs.length < lf) :
    CL g lf N fn_spec_TriangleOk [.int .i64 side, p] h = some (.bool (triB side xs), h) := by
  obtain ⟨n, rfl⟩ : ∃ n, N = n + 1 := ⟨N - 1, by omega⟩
  have : W (CL g lf (n + 1) fn_spec_TriangleOk [.int .i64 side, p] h) fun v h' => v = .bool (triB side xs) ∧ h' = h := by
    rw [spec_TriangleOk.call_eq]
    unfold spec_TriangleOk.main
    simp only [env_lf]
    refine loopW (fun m s => ∃ (k : Nat), s = spec_TriangleOk.st0 (.int .i64 side) p (.int .i64 (k : Int)) h ∧ k + m = xs.length ∧ ∀ i (hi : i < xs.length), i < k → 1 ≤ xs[i] ∧ xs[i] ≤ 2) ?_ lf xs.length _ hf ⟨0, rfl, by omega, fun i _ h => by omega⟩
    rintro n1 m s ⟨k, rfl, hkm, hall⟩ next
    have hlen := hp.len'
    rw [spec_TriangleOk.body0_eq]
    unfold spec_TriangleOk.body0
    simp only [env_C, env_load, env_bin, env_un, env_indexAddr, env_len]
    cases m with
    | zero =>
      have hxs : (xs.all fun x => decide (1 ≤ x ∧ x ≤ 2)) = true := by
        rw [List.all_eq_true]
        intro x hx
        obtain ⟨i, hi, rfl⟩ := List.mem_iff_getElem.1 hx
        exact decide_eq_true (hall i hi (by omega))
      have e1 := l1In_N g lf n (by omega) h side 1 4
      unfold triB
      rw [hxs, Bool.true_and]
      by_cases hs : 1 ≤ side ∧ side ≤ 4
      · rw [decide_eq_true hs] at e1 ⊢
        obtain ⟨s, rfl⟩ := Int.eq_ofNat_of_zero_le (show 0 ≤ side by omega)
        have e2 := l7Cells_N g lf (s := s) (by omega) n (by omega) h
        rw [Bool.true_and, Int.toNat_natCast]
        by_cases hc : xs.length = cellsT s
        · rw [decide_eq_true hc]
          have hc' : (xs.length : Int) = (cellsT s : Int) := by omega
          repeat (first | with_reducible refine wF ?_ | with_reducible refine wg1 rfl ?_ | with_reducible refine wpT ?_ | with_reducible refine wpv ?_ | with_reducible refine wsm ?_ | with_reducible refine wrB ?_ | with_reducible refine wbd (by assumption) ?_ | with_reducible refine wlssF (by omega) ?_ | with_reducible refine weqlT (by omega) ?_ | rw [kLoop_exit] | rw [spec_TriangleOk.after0_se0_0_1_5_9] | dsimp only | simp only [env_C, env_g, env_lf, env_pick, env_alloc, env_box, env_build, env_buildSlice, env_load, env_store, env_ptr, env_bin, env_un, env_conv, env_make, env_slice, env_fieldAddr, env_field, env_indexAddr, env_index, env_extract, env_len, env_append, env_max, env_min, env_makeMap, env_lookup, env_update])
          exact W.ret ⟨rfl, rfl⟩
        · rw [decide_eq_false hc]
          have hc' : ¬ (xs.length : Int) = (cellsT s : Int) := by omega
          repeat (first | with_reducible refine wF ?_ | with_reducible refine wg1 rfl ?_ | with_reducible refine wpT ?_ | with_reducible refine wpv ?_ | with_reducible refine wsm ?_ | with_reducible refine wrB ?_ | with_reducible refine wbd (by assumption) ?_ | with_reducible refine wlssF (by omega) ?_ | with_reducible refine weqlF (by omega) ?_ | rw [kLoop_exit] | rw [spec_TriangleOk.after0_se0_0_1_5_9] | dsimp only | simp only [env_C, env_g, env_lf, env_pick, env_alloc, env_box, env_build, env_buildSlice, env_load, env_store, env_ptr, env_bin, env_un, env_conv, env_make, env_slice, env_fieldAddr, env_field, env_indexAddr, env_index, env_extract, env_len, env_append, env_max, env_min, env_makeMap, env_lookup, env_update])
          exact W.ret ⟨rfl, rfl⟩
      · rw [decide_eq_false hs] at e1 ⊢
        repeat (first | with_reducible refine wF ?_ | with_reducible refine wg0 rfl ?_ | with_reducible refine wpF ?_ | with_reducible refine wsm ?_ | with_reducible refine wrB ?_ | with_reducible refine wbd (by assumption) ?_ | with_reducible refine wlssF (by omega) ?_ | rw [kLoop_exit] | rw [spec_TriangleOk.after0_se0_0_1_5_9] | dsimp only | simp only [env_C, env_g, env_lf, env_pick, env_alloc, env_box, env_build, env_buildSlice, env_load, env_store, env_ptr, env_bin, env_un, env_conv, env_make, env_slice, env_fieldAddr, env_field, env_indexAddr, env_index, env_extract, env_len, env_append, env_max, env_min, env_makeMap, env_lookup, env_update])
        exact W.ret ⟨rfl, rfl⟩
    | succ m =>
      have hk : k < xs.length := by omega
      obtain ⟨a, ea, la⟩ := hp.at' hk
      have e1 := l1In_N g lf n (by omega) h xs[k] 1 2
      by_cases hx : 1 ≤ xs[k] ∧ xs[k] ≤ 2
      · rw [decide_eq_true hx] at e1
        repeat (first | with_reducible refine wT ?_ | with_reducible refine wF ?_ | with_reducible refine wnT ?_ | with_reducible refine wbd (by assumption) ?_ | with_reducible refine wadd1 (by omega) ?_ | with_reducible refine wlssT (by omega) ?_ | dsimp only)
        refine next _ _ (Nat.lt_succ_self m) ⟨k + 1, rfl, by omega, fun i hi hlt => ?_⟩
        by_cases e : i = k
        · subst e; exact hx
        · exact hall i hi (by omega)
      · rw [decide_eq_false hx] at e1
        have hno : triB side xs = false := by
          unfold triB
          have : (xs.all fun x => decide (1 ≤ x ∧ x ≤ 2)) = false := by
            rw [List.all_eq_false]
            exact ⟨xs[k], List.getElem_mem hk, by rw [decide_eq_false hx]; decide⟩
          rw [this]; rfl
        rw [hno]
        repeat (first | with_reducible refine wT ?_ | with_reducible refine wnF ?_ | with_reducible refine wrB ?_ | with_reducible refine wbd (by assumption) ?_ | with_reducible refine wlssT (by omega) ?_ | rw [kLoop_ret] | rw [spec_TriangleOk.K0_ret] | rw [spec_TriangleOk.top_sr_4] | dsimp only)
        exact W.ret ⟨rfl, rfl⟩
  obtain ⟨_, h', e, rfl, rfl⟩ := this
  exact e

theorem l7Place_N {k : Nat} (hk : k < 10) (N : Nat) (hN : 1 ≤ N) (hlf : 20 < lf) (h : PHeap) : CL g lf N fn_spec_l7Place [.int .i64 (k : Int)] h = some (.tup [.int .i64 (rowT k : Int), .int .i64 (plT k : Int)], h) := by
  obtain ⟨n, rfl⟩ : ∃ n, N = n + 1 := ⟨N - 1, by omega⟩
  have : W (CL g lf (n + 1) fn_spec_l7Place [.int .i64 (k : Int)] h) fun v h' => v = .tup [.int .i64 (rowT k : Int), .int .i64 (plT k : Int)] ∧ h' = h := by
    rw [spec_l7Place.call_eq]
    unfold spec_l7Place.main
    simp only [env_lf]
    refine loopW (fun m s => ∃ (c r : Nat), s = spec_l7Place.st0 (.int .i64 (c : Int)) (.int .i64 (r : Int)) h ∧ c ≤ m ∧ r + m ≤ 10 ∧ placeF m r c = placeF 10 0 k) ?_ lf 10 _ (by omega) ⟨k, 0, rfl, by omega, by omega, rfl⟩
    rintro n1 m s ⟨c, r, rfl, hcm, hrm, hpl⟩ next
    rw [spec_l7Place.body0_eq]
    unfold spec_l7Place.body0
    simp only [env_bin]
    by_cases hlt : r < c
    · cases m with
      | zero => omega
      | succ m =>
        rw [placeF, if_pos hlt] at hpl
        have hsb : -4611686018427387904 ≤ (c : Int) - (r : Int) ∧ (c : Int) - (r : Int) ≤ 4611686018427387904 := by omega
        have hsub : (c : Int) - (r : Int) = ((c - r : Nat) : Int) := by omega
        have h1 : 1 ≤ c - r := by omega
        repeat (first | with_reducible refine wT ?_ | (with_reducible refine wsub hsb ?_) | (rw [hsub]) | (with_reducible refine wsub1 h1 (by omega) ?_) | with_reducible refine wadd1 (by omega) ?_ | with_reducible refine wgtrT (by omega) ?_)
        exact next _ _ (Nat.lt_succ_self m) ⟨c - r - 1, r + 1, rfl, by omega, by omega, hpl⟩
    · have hrc : placeF m r c = (r, c) := by
        cases m with
        | zero => rfl
        | succ m => rw [placeF, if_neg hlt]
      rw [hrc] at hpl
      have e1 : rowT k = r := by unfold rowT; rw [← hpl]
      have e2 : plT k = c := by unfold plT; rw [← hpl]
      rw [e1, e2]
      repeat (first | with_reducible refine wF ?_ | with_reducible refine wrI ?_ | with_reducible refine wgtrF (by omega) ?_ | rw [kLoop_exit] | rw [spec_l7Place.after0_se0_0_4_7])
      exact W.ret ⟨rfl, rfl⟩
  obtain ⟨_, h', e, rfl, rfl⟩ := this
  exact e

theorem maskF_lt {a : Nat} : ∀ (m b w : Nat), b + m ≤ 10 → w < 2 ^ 10 → maskF a m b w < 2 ^ 10
  | 0, _, _, _, h => h
  | m + 1, b, w, h, hw => by
    rw [maskF]
    refine maskF_lt m (b + 1) _ (by omega) ?_
    split
    · exact Nat.or_lt_two_pow hw (by rw [Nat.one_shiftLeft]; exact Nat.pow_lt_pow_right (by decide) (by omega))
    · exact hw
theorem maskT_lt {s a : Nat} (hs : s ≤ 4) : maskT s a < 2 ^ 10 := maskF_lt _ 0 0 (by have := cellsT_le hs; omega) (by decide)
theorem masksT_length (s : Nat) : (masksT s).length = cellsT s := by unfold masksT; simp
theorem masksT_get {s a : Nat} (ha : a < cellsT s) : (masksT s)[a]? = some (maskT s a) := by
  unfold masksT; rw [List.getElem?_map, List.getElem?_range ha]; rfl

set_option maxHeartbeats 4000000 in
theorem l7Near_calls {s : Nat} (h1 : 1 ≤ s) (h4 : s ≤ 4) (N : Nat) (hN : 2 ≤ N) (hlf : 20 < lf) (h : PHeap) :
    ∃ q h', CL g lf N fn_spec_l7Near [.int .i64 (s : Int)] h = some (q, h') ∧ OwnSl h.length h' q (ints (masksT s)) ∧ Keep h.length h h' := by
  obtain ⟨n, rfl⟩ : ∃ n, N = n + 1 := ⟨N - 1, by omega⟩
  suffices this : W (CL g lf (n + 1) fn_spec_l7Near [.int .i64 (s : Int)] h) fun q h' => OwnSl h.length h' q (ints (masksT s)) ∧ Keep h.length h h' by
    obtain ⟨q, h', e, o, k⟩ := this
    exact ⟨q, h', e, o, k⟩
  have hc10 := cellsT_le h4
  have eC := fun hh => l7Cells_N g lf (s := s) (by omega) n (by omega) hh
  obtain ⟨T, hT⟩ : ∃ T, T = cellsT s := ⟨_, rfl⟩
  rw [← hT] at eC hc10
  rw [spec_l7Near.call_eq]
  unfold spec_l7Near.main
  simp only [env_lf, env_buildSlice]
  refine wempty fun q h1' o1 k1 => ?_
  refine loopW (fun m st => ∃ (a : Nat) (q : PV) (h2 : PHeap), st = spec_l7Near.st0 (.int .i64 (s : Int)) q (.int .i64 (a : Int)) h2 ∧ a + m = T ∧ OwnSl h.length h2 q (ints ((List.range a).map (maskT s))) ∧ Keep h.length h h2) ?_ lf T _ (by omega) ⟨0, q, h1', rfl, by omega, o1, k1⟩
  rintro n1 m st ⟨a, q, h2, rfl, ham, o2, k2⟩ next
  rw [spec_l7Near.body0_eq]
  unfold spec_l7Near.body0
  simp only [env_C, env_lf, env_bin, env_extract]
  cases m with
  | zero =>
    have haT : a = cellsT s := by omega
    repeat (first | with_reducible refine wF ?_ | (with_reducible refine wbd (eC _) ?_) | with_reducible refine wlssF (by omega) ?_ | with_reducible refine wresO (by assumption) ?_ | rw [kLoop_exit] | rw [spec_l7Near.after0_se0_0_3_4_18] | dsimp only)
    unfold masksT
    rw [← haT]
    exact W.ret ⟨o2, k2⟩
  | succ m =>
    have haT : a < T := by omega
    have eP := fun hh => l7Place_N g lf (k := a) (by omega) n (by omega) hlf hh
    obtain ⟨hra, hpa⟩ := place_le (k := a) (by omega)
    repeat (first | with_reducible refine wT ?_ | with_reducible refine wx0 ?_ | with_reducible refine wx1 ?_ | (with_reducible refine wbd (eC _) ?_) | (with_reducible refine wbd (eP _) ?_) | with_reducible refine wlssT (by omega) ?_ | dsimp only)
    refine loopW (fun m2 st => ∃ (b w : Nat), st = spec_l7Near.st1 (.int .i64 (s : Int)) q (.int .i64 (a : Int)) (.int .i64 (w : Int)) (.int .i64 (rowT a : Int)) (.int .i64 (plT a : Int)) (.int .i64 (b : Int)) h2 ∧ b + m2 = T ∧ w < 2 ^ 10 ∧ maskF a m2 b w = maskT s a) ?_ lf T _ (by omega) ⟨0, 0, rfl, by omega, by decide, by unfold maskT; rw [hT]⟩
    rintro n2 m2 st ⟨b, w, rfl, hbm, hw, hM⟩ next2
    have hw62 : w < 2 ^ 62 := Nat.lt_of_lt_of_le hw (by decide)
    rw [spec_l7Near.body1_eq]
    unfold spec_l7Near.body1
    simp only [env_C, env_pick, env_bin, env_extract]
    cases m2 with
    | zero =>
      rw [maskF] at hM
      have hl9 : (ints ((List.range a).map (maskT s))).length + 1 ≤ 2 ^ 36 := by rw [ints_length]; simp; omega
      repeat (first | with_reducible refine wF ?_ | (with_reducible refine wbd (eC _) ?_) | with_reducible refine wlssF (by omega) ?_ | rw [kLoop_exit] | rw [spec_l7Near.after1_se2_0_3_4_5_6_7_8_29] | dsimp only | simp only [env_C, env_g, env_lf, env_pick, env_alloc, env_box, env_build, env_buildSlice, env_load, env_store, env_ptr, env_bin, env_un, env_conv, env_make, env_slice, env_fieldAddr, env_field, env_indexAddr, env_index, env_extract, env_len, env_append, env_max, env_min, env_makeMap, env_lookup, env_update])
      repeat (first | (refine wap o2 k2.1 hl9 fun p' h6 o6 k6 => ?_) | with_reducible refine wadd1 (by omega) ?_ | dsimp only)
      refine next _ _ (Nat.lt_succ_self m) ⟨a + 1, p', h6, rfl, by omega, ?_, k2.trans k6⟩
      have : ints ((List.range (a + 1)).map (maskT s)) = ints ((List.range a).map (maskT s)) ++ [(w : Int)] := by
        rw [List.range_succ, List.map_append, hM]; simp [ints]
      rw [this]; exact o6
    | succ m2 =>
      have hbT : b < T := by omega
      have eQ := fun hh => l7Place_N g lf (k := b) (by omega) n (by omega) hlf hh
      obtain ⟨hrb, hpb⟩ := place_le (k := b) (by omega)
      have hb30 : b ≤ 30 := by omega
      have h1b : 1 <<< b < 2 ^ 62 := by rw [Nat.one_shiftLeft]; exact Nat.pow_lt_pow_right (by decide) (by omega)
      have hw' : w ||| (1 <<< b) < 2 ^ 10 := Nat.or_lt_two_pow hw (by rw [Nat.one_shiftLeft]; exact Nat.pow_lt_pow_right (by decide) (by omega))
      rw [maskF] at hM
      have hadj := adj_iff a b
      obtain ⟨ra, hra'⟩ : ∃ x, x = rowT a := ⟨_, rfl⟩
      obtain ⟨rb, hrb'⟩ : ∃ x, x = rowT b := ⟨_, rfl⟩
      obtain ⟨pa, hpa'⟩ : ∃ x, x = plT a := ⟨_, rfl⟩
      obtain ⟨pb, hpb'⟩ : ∃ x, x = plT b := ⟨_, rfl⟩
      rw [← hra', ← hrb', ← hpa', ← hpb'] at hadj
      rw [← hrb', ← hpb'] at eQ
      rw [← hra', ← hpa']
      rw [← hra'] at hra hpa
      rw [← hrb'] at hrb hpb
      rw [← hpa'] at hpa
      rw [← hpb'] at hpb
      have hsa : -4611686018427387904 ≤ (pa : Int) - 1 ∧ (pa : Int) - 1 ≤ 4611686018427387904 := by omega
      have hsr : -4611686018427387904 ≤ (ra : Int) - 1 ∧ (ra : Int) - 1 ≤ 4611686018427387904 := by omega
      have hra2 := hra'.symm
      have hpa2 := hpa'.symm
      clear hra' hrb' hpa' hpb'
      have hrow : rb = ra ∨ rb + 1 = ra ∨ rb = ra + 1 ∨ (¬ rb = ra ∧ ¬ rb + 1 = ra ∧ ¬ rb = ra + 1) := by omega
      have hplc : pb = pa ∨ pb + 1 = pa ∨ pb = pa + 1 ∨ (¬ pb = pa ∧ ¬ pb + 1 = pa ∧ ¬ pb = pa + 1) := by omega
      rcases hrow with er | er | er | er
      · rcases hplc with ep | ep | ep | ep
        · have hno : adjT a b = false := by
            cases e : adjT a b with
            | false => rfl
            | true => have := hadj.1 e; omega
          rw [if_neg (by rw [hno]; decide)] at hM
          repeat (first | with_reducible refine wT ?_ | with_reducible refine wF ?_ | with_reducible refine wg1 rfl ?_ | with_reducible refine wg0 rfl ?_ | with_reducible refine wgu ?_ | with_reducible refine wpT ?_ | with_reducible refine wpF ?_ | with_reducible refine wpv ?_ | with_reducible refine wsm ?_ | with_reducible refine wx0 ?_ | with_reducible refine wx1 ?_ | (with_reducible refine wbd (eC _) ?_) | (with_reducible refine wbd (eQ _) ?_) | (with_reducible refine wsub hsa ?_) | (with_reducible refine wsub hsr ?_) | with_reducible refine wadd1 (by omega) ?_ | with_reducible refine wlssT (by omega) ?_ | with_reducible refine weqlT (by omega) ?_ | with_reducible refine weqlF (by omega) ?_ | dsimp only)
          exact next2 _ _ (Nat.lt_succ_self m2) ⟨b + 1, w, by rw [hra2, hpa2], by omega, hw, hM⟩
        · have hyes : adjT a b = true := hadj.2 (by omega)
          rw [if_pos hyes] at hM
          repeat (first | with_reducible refine wT ?_ | with_reducible refine wg1 rfl ?_ | with_reducible refine wg0 rfl ?_ | with_reducible refine wgu ?_ | with_reducible refine wpT ?_ | with_reducible refine wpF ?_ | with_reducible refine wpv ?_ | with_reducible refine wsm ?_ | with_reducible refine wx0 ?_ | with_reducible refine wx1 ?_ | (with_reducible refine wbd (eC _) ?_) | (with_reducible refine wbd (eQ _) ?_) | (with_reducible refine wsub hsa ?_) | (with_reducible refine wsub hsr ?_) | (with_reducible refine wshl hb30 ?_) | (with_reducible refine wor hw62 h1b ?_) | with_reducible refine wadd1 (by omega) ?_ | with_reducible refine wlssT (by omega) ?_ | with_reducible refine weqlT (by omega) ?_ | with_reducible refine weqlF (by omega) ?_ | dsimp only)
          exact next2 _ _ (Nat.lt_succ_self m2) ⟨b + 1, w ||| (1 <<< b), by rw [hra2, hpa2], by omega, hw', hM⟩
        · have hyes : adjT a b = true := hadj.2 (by omega)
          rw [if_pos hyes] at hM
          repeat (first | with_reducible refine wT ?_ | with_reducible refine wg1 rfl ?_ | with_reducible refine wg0 rfl ?_ | with_reducible refine wgu ?_ | with_reducible refine wpT ?_ | with_reducible refine wpF ?_ | with_reducible refine wpv ?_ | with_reducible refine wsm ?_ | with_reducible refine wx0 ?_ | with_reducible refine wx1 ?_ | (with_reducible refine wbd (eC _) ?_) | (with_reducible refine wbd (eQ _) ?_) | (with_reducible refine wsub hsa ?_) | (with_reducible refine wsub hsr ?_) | (with_reducible refine wshl hb30 ?_) | (with_reducible refine wor hw62 h1b ?_) | with_reducible refine wadd1 (by omega) ?_ | with_reducible refine wlssT (by omega) ?_ | with_reducible refine weqlT (by omega) ?_ | with_reducible refine weqlF (by omega) ?_ | dsimp only)
          exact next2 _ _ (Nat.lt_succ_self m2) ⟨b + 1, w ||| (1 <<< b), by rw [hra2, hpa2], by omega, hw', hM⟩
        · have hno : adjT a b = false := by
            cases e : adjT a b with
            | false => rfl
            | true => have := hadj.1 e; omega
          rw [if_neg (by rw [hno]; decide)] at hM
          repeat (first | with_reducible refine wT ?_ | with_reducible refine wF ?_ | with_reducible refine wg1 rfl ?_ | with_reducible refine wg0 rfl ?_ | with_reducible refine wgu ?_ | with_reducible refine wpT ?_ | with_reducible refine wpF ?_ | with_reducible refine wpv ?_ | with_reducible refine wsm ?_ | with_reducible refine wx0 ?_ | with_reducible refine wx1 ?_ | (with_reducible refine wbd (eC _) ?_) | (with_reducible refine wbd (eQ _) ?_) | (with_reducible refine wsub hsa ?_) | (with_reducible refine wsub hsr ?_) | with_reducible refine wadd1 (by omega) ?_ | with_reducible refine wlssT (by omega) ?_ | with_reducible refine weqlT (by omega) ?_ | with_reducible refine weqlF (by omega) ?_ | dsimp only)
          exact next2 _ _ (Nat.lt_succ_self m2) ⟨b + 1, w, by rw [hra2, hpa2], by omega, hw, hM⟩
      · rcases hplc with ep | ep | ep | ep
        · have hyes : adjT a b = true := hadj.2 (by omega)
          rw [if_pos hyes] at hM
          repeat (first | with_reducible refine wT ?_ | with_reducible refine wg1 rfl ?_ | with_reducible refine wg0 rfl ?_ | with_reducible refine wgu ?_ | with_reducible refine wpT ?_ | with_reducible refine wpF ?_ | with_reducible refine wpv ?_ | with_reducible refine wsm ?_ | with_reducible refine wx0 ?_ | with_reducible refine wx1 ?_ | (with_reducible refine wbd (eC _) ?_) | (with_reducible refine wbd (eQ _) ?_) | (with_reducible refine wsub hsa ?_) | (with_reducible refine wsub hsr ?_) | (with_reducible refine wshl hb30 ?_) | (with_reducible refine wor hw62 h1b ?_) | with_reducible refine wadd1 (by omega) ?_ | with_reducible refine wlssT (by omega) ?_ | with_reducible refine weqlT (by omega) ?_ | with_reducible refine weqlF (by omega) ?_ | dsimp only)
          exact next2 _ _ (Nat.lt_succ_self m2) ⟨b + 1, w ||| (1 <<< b), by rw [hra2, hpa2], by omega, hw', hM⟩
        · have hyes : adjT a b = true := hadj.2 (by omega)
          rw [if_pos hyes] at hM
          repeat (first | with_reducible refine wT ?_ | with_reducible refine wg1 rfl ?_ | with_reducible refine wg0 rfl ?_ | with_reducible refine wgu ?_ | with_reducible refine wpT ?_ | with_reducible refine wpF ?_ | with_reducible refine wpv ?_ | with_reducible refine wsm ?_ | with_reducible refine wx0 ?_ | with_reducible refine wx1 ?_ | (with_reducible refine wbd (eC _) ?_) | (with_reducible refine wbd (eQ _) ?_) | (with_reducible refine wsub hsa ?_) | (with_reducible refine wsub hsr ?_) | (with_reducible refine wshl hb30 ?_) | (with_reducible refine wor hw62 h1b ?_) | with_reducible refine wadd1 (by omega) ?_ | with_reducible refine wlssT (by omega) ?_ | with_reducible refine weqlT (by omega) ?_ | with_reducible refine weqlF (by omega) ?_ | dsimp only)
          exact next2 _ _ (Nat.lt_succ_self m2) ⟨b + 1, w ||| (1 <<< b), by rw [hra2, hpa2], by omega, hw', hM⟩
        · have hno : adjT a b = false := by
            cases e : adjT a b with
            | false => rfl
            | true => have := hadj.1 e; omega
          rw [if_neg (by rw [hno]; decide)] at hM
          repeat (first | with_reducible refine wT ?_ | with_reducible refine wF ?_ | with_reducible refine wg1 rfl ?_ | with_reducible refine wg0 rfl ?_ | with_reducible refine wgu ?_ | with_reducible refine wpT ?_ | with_reducible refine wpF ?_ | with_reducible refine wpv ?_ | with_reducible refine wsm ?_ | with_reducible refine wx0 ?_ | with_reducible refine wx1 ?_ | (with_reducible refine wbd (eC _) ?_) | (with_reducible refine wbd (eQ _) ?_) | (with_reducible refine wsub hsa ?_) | (with_reducible refine wsub hsr ?_) | with_reducible refine wadd1 (by omega) ?_ | with_reducible refine wlssT (by omega) ?_ | with_reducible refine weqlT (by omega) ?_ | with_reducible refine weqlF (by omega) ?_ | dsimp only)
          exact next2 _ _ (Nat.lt_succ_self m2) ⟨b + 1, w, by rw [hra2, hpa2], by omega, hw, hM⟩
        · have hno : adjT a b = false := by
            cases e : adjT a b with
            | false => rfl
            | true => have := hadj.1 e; omega
          rw [if_neg (by rw [hno]; decide)] at hM
          repeat (first | with_reducible refine wT ?_ | with_reducible refine wF ?_ | with_reducible refine wg1 rfl ?_ | with_reducible refine wg0 rfl ?_ | with_reducible refine wgu ?_ | with_reducible refine wpT ?_ | with_reducible refine wpF ?_ | with_reducible refine wpv ?_ | with_reducible refine wsm ?_ | with_reducible refine wx0 ?_ | with_reducible refine wx1 ?_ | (with_reducible refine wbd (eC _) ?_) | (with_reducible refine wbd (eQ _) ?_) | (with_reducible refine wsub hsa ?_) | (with_reducible refine wsub hsr ?_) | with_reducible refine wadd1 (by omega) ?_ | with_reducible refine wlssT (by omega) ?_ | with_reducible refine weqlT (by omega) ?_ | with_reducible refine weqlF (by omega) ?_ | dsimp only)
          exact next2 _ _ (Nat.lt_succ_self m2) ⟨b + 1, w, by rw [hra2, hpa2], by omega, hw, hM⟩
      · rcases hplc with ep | ep | ep | ep
        · have hyes : adjT a b = true := hadj.2 (by omega)
          rw [if_pos hyes] at hM
          repeat (first | with_reducible refine wT ?_ | with_reducible refine wg1 rfl ?_ | with_reducible refine wg0 rfl ?_ | with_reducible refine wgu ?_ | with_reducible refine wpT ?_ | with_reducible refine wpF ?_ | with_reducible refine wpv ?_ | with_reducible refine wsm ?_ | with_reducible refine wx0 ?_ | with_reducible refine wx1 ?_ | (with_reducible refine wbd (eC _) ?_) | (with_reducible refine wbd (eQ _) ?_) | (with_reducible refine wsub hsr ?_) | (with_reducible refine wshl hb30 ?_) | (with_reducible refine wor hw62 h1b ?_) | with_reducible refine wadd1 (by omega) ?_ | with_reducible refine wlssT (by omega) ?_ | with_reducible refine weqlT (by omega) ?_ | with_reducible refine weqlF (by omega) ?_ | dsimp only)
          exact next2 _ _ (Nat.lt_succ_self m2) ⟨b + 1, w ||| (1 <<< b), by rw [hra2, hpa2], by omega, hw', hM⟩
        · have hno : adjT a b = false := by
            cases e : adjT a b with
            | false => rfl
            | true => have := hadj.1 e; omega
          rw [if_neg (by rw [hno]; decide)] at hM
          repeat (first | with_reducible refine wT ?_ | with_reducible refine wF ?_ | with_reducible refine wg1 rfl ?_ | with_reducible refine wg0 rfl ?_ | with_reducible refine wgu ?_ | with_reducible refine wpT ?_ | with_reducible refine wpF ?_ | with_reducible refine wpv ?_ | with_reducible refine wsm ?_ | with_reducible refine wx0 ?_ | with_reducible refine wx1 ?_ | (with_reducible refine wbd (eC _) ?_) | (with_reducible refine wbd (eQ _) ?_) | (with_reducible refine wsub hsr ?_) | with_reducible refine wadd1 (by omega) ?_ | with_reducible refine wlssT (by omega) ?_ | with_reducible refine weqlT (by omega) ?_ | with_reducible refine weqlF (by omega) ?_ | dsimp only)
          exact next2 _ _ (Nat.lt_succ_self m2) ⟨b + 1, w, by rw [hra2, hpa2], by omega, hw, hM⟩
        · have hyes : adjT a b = true := hadj.2 (by omega)
          rw [if_pos hyes] at hM
          repeat (first | with_reducible refine wT ?_ | with_reducible refine wg1 rfl ?_ | with_reducible refine wg0 rfl ?_ | with_reducible refine wgu ?_ | with_reducible refine wpT ?_ | with_reducible refine wpF ?_ | with_reducible refine wpv ?_ | with_reducible refine wsm ?_ | with_reducible refine wx0 ?_ | with_reducible refine wx1 ?_ | (with_reducible refine wbd (eC _) ?_) | (with_reducible refine wbd (eQ _) ?_) | (with_reducible refine wsub hsr ?_) | (with_reducible refine wshl hb30 ?_) | (with_reducible refine wor hw62 h1b ?_) | with_reducible refine wadd1 (by omega) ?_ | with_reducible refine wlssT (by omega) ?_ | with_reducible refine weqlT (by omega) ?_ | with_reducible refine weqlF (by omega) ?_ | dsimp only)
          exact next2 _ _ (Nat.lt_succ_self m2) ⟨b + 1, w ||| (1 <<< b), by rw [hra2, hpa2], by omega, hw', hM⟩
        · have hno : adjT a b = false := by
            cases e : adjT a b with
            | false => rfl
            | true => have := hadj.1 e; omega
          rw [if_neg (by rw [hno]; decide)] at hM
          repeat (first | with_reducible refine wT ?_ | with_reducible refine wF ?_ | with_reducible refine wg1 rfl ?_ | with_reducible refine wg0 rfl ?_ | with_reducible refine wgu ?_ | with_reducible refine wpT ?_ | with_reducible refine wpF ?_ | with_reducible refine wpv ?_ | with_reducible refine wsm ?_ | with_reducible refine wx0 ?_ | with_reducible refine wx1 ?_ | (with_reducible refine wbd (eC _) ?_) | (with_reducible refine wbd (eQ _) ?_) | (with_reducible refine wsub hsr ?_) | with_reducible refine wadd1 (by omega) ?_ | with_reducible refine wlssT (by omega) ?_ | with_reducible refine weqlT (by omega) ?_ | with_reducible refine weqlF (by omega) ?_ | dsimp only)
          exact next2 _ _ (Nat.lt_succ_self m2) ⟨b + 1, w, by rw [hra2, hpa2], by omega, hw, hM⟩
      · have hno : adjT a b = false := by
          cases e : adjT a b with
          | false => rfl
          | true => have := hadj.1 e; omega
        rw [if_neg (by rw [hno]; decide)] at hM
        repeat (first | with_reducible refine wT ?_ | with_reducible refine wF ?_ | with_reducible refine wg1 rfl ?_ | with_reducible refine wg0 rfl ?_ | with_reducible refine wgu ?_ | with_reducible refine wpF ?_ | with_reducible refine wsm ?_ | with_reducible refine wx0 ?_ | with_reducible refine wx1 ?_ | (with_reducible refine wbd (eC _) ?_) | (with_reducible refine wbd (eQ _) ?_) | (with_reducible refine wsub hsr ?_) | with_reducible refine wadd1 (by omega) ?_ | with_reducible refine wlssT (by omega) ?_ | with_reducible refine weqlF (by omega) ?_ | dsimp only)
        exact next2 _ _ (Nat.lt_succ_self m2) ⟨b + 1, w, by rw [hra2, hpa2], by omega, hw, hM⟩

end Go.Proofs.YtlefknibddkjpaaDoor

/- The model's chapter 7, continued: neighbours, shrinking, turning, the last cell. -/
set_option maxRecDepth 20000
namespace Go.Proofs.YtlefknibddkjpaaDoor
open Go Go.Ip G

def nearTL (side cell : Int) : List Int := if (decide (1 ≤ side ∧ side ≤ 4) && decide (0 ≤ cell ∧ cell < (cellsT side.toNat : Int))) = true then listT (maskT side.toNat cell.toNat) else []
theorem bitsF_bit {f : Nat → Bool} {j : Nat} : ∀ {m : Nat}, (bitsF f m).testBit j = (decide (j < m) && f j)
  | 0 => by rw [bitsF, Nat.zero_testBit]; simp
  | m + 1 => by
    rw [bitsF]
    cases e : f m with
    | true =>
      show (bitsF f m ||| (1 <<< m)).testBit j = _
      rw [with_bit, bitsF_bit]
      by_cases h : j = m
      · subst h; simp [e]
      · by_cases h2 : j < m
        · simp [h, h2, show j < m + 1 by omega]
        · simp [h, h2, show ¬ j < m + 1 by omega]
    | false =>
      show (bitsF f m).testBit j = _
      rw [bitsF_bit]
      by_cases h : j = m
      · subst h; simp [e]
      · by_cases h2 : j < m
        · simp [h2, show j < m + 1 by omega]
        · simp [h2, show ¬ j < m + 1 by omega]
theorem below_all : ((List.range 5).all fun s => (List.range (cellsT (s - 1))).all fun k => decide (belowT k + 1 < cellsT s) && decide (k < cellsT s)) = true := by kernel_rfl
theorem below_lt {s k : Nat} (hs : s ≤ 4) (hk : k < cellsT (s - 1)) : belowT k + 1 < cellsT s ∧ k < cellsT s := by
  have := List.all_eq_true.1 (List.all_eq_true.1 below_all s (List.mem_range.2 (by omega))) k (List.mem_range.2 hk)
  simpa using this
theorem turnK_all : ((List.range 5).all fun s => (List.range (cellsT s)).all fun k => decide (turnK s k < cellsT s) && (decide (rowT k + 1 ≤ s) && decide (plT k ≤ cellsT (s - 1 - plT k) + rowT k))) = true := by kernel_rfl
theorem turnK_lt {s k : Nat} (hs : s ≤ 4) (hk : k < cellsT s) : turnK s k < cellsT s ∧ rowT k + 1 ≤ s ∧ plT k ≤ cellsT (s - 1 - plT k) + rowT k := by
  have := List.all_eq_true.1 (List.all_eq_true.1 turnK_all s (List.mem_range.2 (by omega))) k (List.mem_range.2 hk)
  simpa using this
theorem fillT_take {n A k : Nat} (hk : k < n) : (fillT n A).take (k + 1) = (fillT n A).take k ++ [if A.testBit k = true then 1 else 2] := by
  rw [List.take_add_one, fillT_get hk]; rfl
theorem fillT_at {n A k : Nat} {xs : List Int} (hx : xs = fillT n A) (hk : k < n) (hk' : k < xs.length) : xs[k] = if A.testBit k = true then 1 else 2 := by
  have := fillT_get (A := A) hk
  rw [← hx, List.getElem?_eq_getElem hk'] at this
  exact Option.some.inj this
theorem two_sum {a b c : Bool} : twoOf a b c = true ↔ ((if a = true then 1 else 2 : Int) + (if b = true then 1 else 2) + (if c = true then 1 else 2)) ≤ 4 := by
  cases a <;> cases b <;> cases c <;> decide

variable (g : Nat → PV) (lf n : Nat)

theorem specTriangleNear_calls (N : Nat) (hN : 3 ≤ N) (hlf : 20 < lf) (h : PHeap) (side cell : Int) :
    ∃ q h', CL g lf N fn_spec_TriangleNear [.int .i64 side, .int .i64 cell] h = some (q, h') ∧ OwnSl h.length h' q (nearTL side cell) ∧ Keep h.length h h' := by
  obtain ⟨n, rfl⟩ : ∃ n, N = n + 1 := ⟨N - 1, by omega⟩
  suffices this : W (CL g lf (n + 1) fn_spec_TriangleNear [.int .i64 side, .int .i64 cell] h) fun q h' => OwnSl h.length h' q (nearTL side cell) ∧ Keep h.length h h' by
    obtain ⟨q, h', e, o, k⟩ := this
    exact ⟨q, h', e, o, k⟩
  have e1 := l1In_N g lf n (by omega) h side 1 4
  unfold nearTL
  rw [spec_TriangleNear.call_eq]
  unfold spec_TriangleNear.main
  simp only [env_C, env_pick, env_buildSlice, env_load, env_bin, env_un, env_indexAddr]
  by_cases hs : 1 ≤ side ∧ side ≤ 4
  · rw [decide_eq_true hs] at e1 ⊢
    obtain ⟨s, rfl⟩ := Int.eq_ofNat_of_zero_le (show 0 ≤ side by omega)
    have eC := l7Cells_N g lf (s := s) (by omega) n (by omega) h
    have hc10 := cellsT_le (s := s) (by omega)
    have e2 := l1In_N g lf n (by omega) h cell 0 ((cellsT s : Int) - 1)
    have hsb : -4611686018427387904 ≤ (cellsT s : Int) - 1 ∧ (cellsT s : Int) - 1 ≤ 4611686018427387904 := by omega
    rw [Bool.true_and, Int.toNat_natCast]
    by_cases hc : 0 ≤ cell ∧ cell < (cellsT s : Int)
    · rw [decide_eq_true hc, if_pos rfl]
      rw [decide_eq_true (show 0 ≤ cell ∧ cell ≤ (cellsT s : Int) - 1 by omega)] at e2
      obtain ⟨a, rfl⟩ := Int.eq_ofNat_of_zero_le hc.1
      have ha : a < cellsT s := by omega
      obtain ⟨q1, h1, e3, o1, k1⟩ := l7Near_calls g lf (s := s) (by omega) (by omega) n (by omega) hlf h
      have haM : a < (masksT s).length := by rw [masksT_length]; exact ha
      obtain ⟨p, ea, la⟩ := o1.int.at' (i := a) (by rw [ints_length]; exact haM)
      rw [ints_get haM, List.getD_eq_getElem?_getD, masksT_get ha] at la
      have la : loadP Tryd.prog 3 p h1 = some (.int .i64 (maskT s a : Int)) := la
      obtain ⟨q2, h2, e4, o2, k2⟩ := l2ListT_calls g lf (set := maskT s a) (maskT_lt (by omega)) n (by omega) (by omega) (h := h1)
      rw [Int.toNat_natCast]
      have o3 : OwnSl h.length h2 q2 (listT (maskT s a)) := o2.mono k1.1
      repeat (first | with_reducible refine wF ?_ | with_reducible refine wg1 rfl ?_ | with_reducible refine wpF ?_ | with_reducible refine wnT ?_ | with_reducible refine wpv ?_ | with_reducible refine wsm ?_ | with_reducible refine wbd (by assumption) ?_ | (with_reducible refine wsub hsb ?_) | with_reducible refine wresO (by assumption) ?_ | dsimp only)
      exact W.ret ⟨o3, k1.trans (k2.mono k1.1)⟩
    · rw [decide_eq_false hc, if_neg (by decide)]
      rw [decide_eq_false (show ¬ (0 ≤ cell ∧ cell ≤ (cellsT s : Int) - 1) by omega)] at e2
      repeat (first | with_reducible refine wT ?_ | with_reducible refine wg1 rfl ?_ | with_reducible refine wpF ?_ | with_reducible refine wnT ?_ | with_reducible refine wnF ?_ | with_reducible refine wpv ?_ | with_reducible refine wsm ?_ | with_reducible refine wbd (by assumption) ?_ | (with_reducible refine wsub hsb ?_) | (refine wempty fun q h1 o1 k1 => ?_) | with_reducible refine wresO (by assumption) ?_ | dsimp only)
      exact W.ret ⟨o1, k1⟩
  · rw [decide_eq_false hs] at e1 ⊢
    rw [Bool.false_and, if_neg (by decide)]
    repeat (first | with_reducible refine wT ?_ | with_reducible refine wg0 rfl ?_ | with_reducible refine wpT ?_ | with_reducible refine wnF ?_ | with_reducible refine wsm ?_ | with_reducible refine wbd (by assumption) ?_ | (refine wempty fun q h1 o1 k1 => ?_) | with_reducible refine wresO (by assumption) ?_ | dsimp only)
    exact W.ret ⟨o1, k1⟩

theorem specShrunk_calls {xs : List Int} {p : PV} {h : PHeap} (N : Nat) (hN : 3 ≤ N) (side : Int) (hp : IntSl .i64 h p xs) (hl : xs.length ≤ 2 ^ 35) (hf : xs.length < lf) (hlf : 20 < lf) :
    ∃ q h', CL g lf N fn_spec_Shrunk [.int .i64 side, p] h = some (q, h') ∧ OwnSl h.length h' q (shrunkL side xs) ∧ Keep h.length h h' := by
  obtain ⟨n, rfl⟩ : ∃ n, N = n + 1 := ⟨N - 1, by omega⟩
  suffices this : W (CL g lf (n + 1) fn_spec_Shrunk [.int .i64 side, p] h) fun q h' => OwnSl h.length h' q (shrunkL side xs) ∧ Keep h.length h h' by
    obtain ⟨q, h', e, o, k⟩ := this
    exact ⟨q, h', e, o, k⟩
  rw [spec_Shrunk.call_eq]
  unfold spec_Shrunk.main
  simp only [env_C, env_lf, env_pick, env_buildSlice, env_bin, env_un]
  refine wempty fun q h1 o1 k1 => ?_
  have hp1 := hp.keep k1
  have eT := specTriangleOk_N g lf n (by omega) side hp1 hl hf
  cases hb : triB side xs with
  | false =>
    rw [hb] at eT
    have hno : shrunkL side xs = [] := by unfold shrunkL; rw [hb]; rfl
    rw [hno]
    have hr := o1.res
    repeat (first | with_reducible refine wT ?_ | with_reducible refine wg0 rfl ?_ | with_reducible refine wpT ?_ | with_reducible refine wnF ?_ | with_reducible refine wsm ?_ | with_reducible refine wbd (by assumption) ?_ | dsimp only)
    exact W.ret ⟨o1, k1⟩
  | true =>
    rw [hb] at eT
    obtain ⟨s, A, hT⟩ := tri_of hb
    obtain ⟨rfl, s1, s4, hA, hx, hlen, _, _⟩ := id hT
    by_cases h2 : 2 ≤ s
    · rw [tri_shrunk hT h2]
      have hc10 := cellsT_le (s := s - 1) (by omega)
      have hs10 := cellsT_le s4
      obtain ⟨T, hT'⟩ : ∃ T, T = cellsT (s - 1) := ⟨_, rfl⟩
      have eC := fun hh => l7Cells_N g lf (s := s - 1) (by omega) n (by omega) hh
      rw [← hT'] at eC hc10
      have hs1 : 1 ≤ s := s1
      repeat (first | with_reducible refine wF ?_ | with_reducible refine wg1 rfl ?_ | with_reducible refine wpF ?_ | with_reducible refine wnT ?_ | with_reducible refine wpv ?_ | with_reducible refine wsm ?_ | with_reducible refine wbd (by assumption) ?_ | with_reducible refine wlssF (by omega) ?_ | dsimp only)
      refine loopW (fun m st => ∃ (k : Nat) (q : PV) (h2 : PHeap), st = spec_Shrunk.st0 (.int .i64 (s : Int)) p q (.int .i64 (k : Int)) h2 ∧ k + m = T ∧ OwnSl h.length h2 q ((fillT T (shrT s A)).take k) ∧ Keep h.length h h2) ?_ lf T _ (by omega) ⟨0, q, h1, rfl, by omega, o1, k1⟩
      rintro n1 m st ⟨k, q, h2', rfl, hkm, o2, k2⟩ next
      have hp2 := hp.keep k2
      rw [spec_Shrunk.body0_eq]
      unfold spec_Shrunk.body0
      simp only [env_C, env_buildSlice, env_load, env_bin, env_indexAddr, env_extract, env_append]
      cases m with
      | zero =>
        have hkT : k = T := by omega
        have hr := o2.res
        repeat (first | with_reducible refine wF ?_ | with_reducible refine wbd (by assumption) ?_ | (with_reducible refine wsub1 hs1 (by omega) ?_) | (with_reducible refine wbd (eC _) ?_) | with_reducible refine wlssF (by omega) ?_ | rw [kLoop_exit] | rw [spec_Shrunk.after0_se0_0_1_5_6_25] | dsimp only)
        rw [hkT, List.take_of_length_le (by rw [fillT_length]; exact Nat.le_refl _), hT'] at o2
        exact W.ret ⟨o2, k2⟩
      | succ m =>
        have hk : k < T := by omega
        obtain ⟨b1, b2⟩ := below_lt (s := s) (k := k) s4 (by omega)
        have eP := fun hh => l7Place_N g lf (k := k) (by omega) n (by omega) hlf hh
        obtain ⟨r1, r2⟩ := place_le (k := k) (by omega)
        have eC2 := fun hh => l7Cells_N g lf (s := rowT k + 1) (by omega) n (by omega) hh
        have hbel : cellsT (rowT k + 1) + plT k = belowT k := rfl
        obtain ⟨B, hB⟩ : ∃ B, B = belowT k := ⟨_, rfl⟩
        rw [← hB] at hbel b1
        obtain ⟨a1, ea1, la1⟩ := hp2.at' (i := k) (by omega)
        obtain ⟨a2, ea2, la2⟩ := hp2.at' (i := B) (by omega)
        obtain ⟨a3, ea3, la3⟩ := hp2.at' (i := B + 1) (by omega)
        have v1 := fillT_at hx (k := k) (by omega) (by omega)
        have v2 := fillT_at hx (k := B) (by omega) (by omega)
        have v3 := fillT_at hx (k := B + 1) (by omega) (by omega)
        have hts := two_sum (a := A.testBit k) (b := A.testBit B) (c := A.testBit (B + 1))
        rw [← v1, ← v2, ← v3] at hts
        have u1 : xs[k]'(by omega) = 1 ∨ xs[k]'(by omega) = 2 := by rw [v1]; split <;> simp
        have u2 : xs[B]'(by omega) = 1 ∨ xs[B]'(by omega) = 2 := by rw [v2]; split <;> simp
        have u3 : xs[B + 1]'(by omega) = 1 ∨ xs[B + 1]'(by omega) = 2 := by rw [v3]; split <;> simp
        obtain ⟨x1, hx1⟩ : ∃ x, x = xs[k]'(by omega) := ⟨_, rfl⟩
        obtain ⟨x2, hx2⟩ : ∃ x, x = xs[B]'(by omega) := ⟨_, rfl⟩
        obtain ⟨x3, hx3⟩ : ∃ x, x = xs[B + 1]'(by omega) := ⟨_, rfl⟩
        rw [← hx1] at la1 u1 hts
        rw [← hx2] at la2 u2 hts
        rw [← hx3] at la3 u3 hts
        have hbit : (shrT s A).testBit k = twoOf (A.testBit k) (A.testBit B) (A.testBit (B + 1)) := by
          unfold shrT; rw [bitsF_bit, decide_eq_true (by omega : k < cellsT (s - 1)), Bool.true_and, hB]
        have hz : ((fillT T (shrT s A)).take k).length + 1 ≤ 2 ^ 36 := by rw [List.length_take, fillT_length]; omega
        have hw1 : -4611686018427387904 ≤ x1 + x2 ∧ x1 + x2 ≤ 4611686018427387904 := by omega
        have hw2 : -4611686018427387904 ≤ x1 + x2 + x3 ∧ x1 + x2 + x3 ≤ 4611686018427387904 := by omega
        clear hx1 hx2 hx3 v1 v2 v3
        have hBb : B + 1 < 20 := by omega
        have hcb : cellsT (rowT k + 1) + plT k < 4611686018427387904 := by omega
        by_cases hle : x1 + x2 + x3 ≤ 4
        · have ht := hts.2 hle
          repeat (first | with_reducible refine wT ?_ | with_reducible refine wx0 ?_ | with_reducible refine wx1 ?_ | with_reducible refine wbd (by assumption) ?_ | (with_reducible refine wsub1 hs1 (by omega) ?_) | (with_reducible refine wbd (eC _) ?_) | (with_reducible refine wbd (eP _) ?_) | (with_reducible refine wbd (eC2 _) ?_) | (with_reducible refine waddN hcb ?_) | (rw [hbel]) | (with_reducible refine wadd hw1 ?_) | (with_reducible refine wadd hw2 ?_) | with_reducible refine wadd1 (by omega) ?_ | with_reducible refine wlssT (by omega) ?_ | with_reducible refine wleqT (by omega) ?_ | dsimp only)
          repeat (first | (refine wap o2 k2.1 hz fun p' h6 o6 k6 => ?_) | with_reducible refine wadd1 (by omega) ?_ | dsimp only)
          refine next _ _ (Nat.lt_succ_self m) ⟨k + 1, p', h6, rfl, by omega, ?_, k2.trans k6⟩
          rw [fillT_take hk, hbit, ht]; exact o6
        · have ht : twoOf (A.testBit k) (A.testBit B) (A.testBit (B + 1)) = false := by
            cases e : twoOf (A.testBit k) (A.testBit B) (A.testBit (B + 1)) with
            | false => rfl
            | true => exact (hle (hts.1 e)).elim
          repeat (first | with_reducible refine wT ?_ | with_reducible refine wF ?_ | with_reducible refine wx0 ?_ | with_reducible refine wx1 ?_ | with_reducible refine wbd (by assumption) ?_ | (with_reducible refine wsub1 hs1 (by omega) ?_) | (with_reducible refine wbd (eC _) ?_) | (with_reducible refine wbd (eP _) ?_) | (with_reducible refine wbd (eC2 _) ?_) | (with_reducible refine waddN hcb ?_) | (rw [hbel]) | (with_reducible refine wadd hw1 ?_) | (with_reducible refine wadd hw2 ?_) | with_reducible refine wadd1 (by omega) ?_ | with_reducible refine wlssT (by omega) ?_ | with_reducible refine wleqF (by omega) ?_ | dsimp only)
          repeat (first | (refine wap o2 k2.1 hz fun p' h6 o6 k6 => ?_) | with_reducible refine wadd1 (by omega) ?_ | dsimp only)
          refine next _ _ (Nat.lt_succ_self m) ⟨k + 1, p', h6, rfl, by omega, ?_, k2.trans k6⟩
          rw [fillT_take hk, hbit, ht]; exact o6
    · have hno : shrunkL (s : Int) xs = [] := by unfold shrunkL; rw [hb, decide_eq_false (by omega : ¬ 2 ≤ (s : Int))]; rfl
      rw [hno]
      have hr := o1.res
      repeat (first | with_reducible refine wT ?_ | with_reducible refine wg1 rfl ?_ | with_reducible refine wpF ?_ | with_reducible refine wnT ?_ | with_reducible refine wpv ?_ | with_reducible refine wsm ?_ | with_reducible refine wbd (by assumption) ?_ | with_reducible refine wlssT (by omega) ?_ | dsimp only)
      exact W.ret ⟨o1, k1⟩

end Go.Proofs.YtlefknibddkjpaaDoor

/- The model's chapter 7, continued: the last cell, turned triangles. -/
set_option maxRecDepth 20000
namespace Go.Proofs.YtlefknibddkjpaaDoor
open Go Go.Ip G

variable (g : Nat → PV) (lf n : Nat)

theorem specLastCell_calls {xs : List Int} {p : PV} {h : PHeap} (N : Nat) (hN : 4 ≤ N) (side : Int) (hp : IntSl .i64 h p xs) (hl : xs.length ≤ 2 ^ 35) (hf : xs.length < lf) (hlf : 20 < lf) :
    ∃ h', CL g lf N fn_spec_LastCell [.int .i64 side, p] h = some (.int .i64 (lastL side xs), h') ∧ Keep h.length h h' := by
  obtain ⟨n, rfl⟩ : ∃ n, N = n + 1 := ⟨N - 1, by omega⟩
  have : W (CL g lf (n + 1) fn_spec_LastCell [.int .i64 side, p] h) fun v h' => v = .int .i64 (lastL side xs) ∧ Keep h.length h h' := by
    have eT := specTriangleOk_N g lf n (by omega) side hp hl hf
    rw [spec_LastCell.call_eq]
    unfold spec_LastCell.main
    simp only [env_C, env_lf, env_buildSlice, env_un, env_append]
    cases hb : triB side xs with
    | false =>
      rw [hb] at eT
      have hno : lastL side xs = 0 := by unfold lastL; rw [hb]; rfl
      rw [hno]
      repeat (first | with_reducible refine wT ?_ | with_reducible refine wnF ?_ | with_reducible refine wrI ?_ | with_reducible refine wbd (by assumption) ?_ | dsimp only)
      exact W.ret ⟨rfl, Keep.refl _ _⟩
    | true =>
      rw [hb] at eT
      obtain ⟨s, A, hT⟩ := tri_of hb
      rw [tri_last hT]
      obtain ⟨rfl, s1, s4, hA, hx, hlen, _, _⟩ := id hT
      have hc1 : 0 < cellsT s := by
        have : s = 1 ∨ s = 2 ∨ s = 3 ∨ s = 4 := by omega
        rcases this with rfl | rfl | rfl | rfl <;> decide
      obtain ⟨v, q, h2, e2, e3, o2, k2⟩ := copy_all hp (by omega) (by omega)
      repeat (first | with_reducible refine wF ?_ | with_reducible refine wnT ?_ | with_reducible refine wbd (by assumption) ?_ | dsimp only)
      refine loopW (fun m st => ∃ (s' A' : Nat) (q : PV) (h2 : PHeap), st = spec_LastCell.st0 q (.int .i64 (s' : Int)) h2 ∧ s' = m ∧ 1 ≤ s' ∧ s' ≤ 4 ∧ A' < 2 ^ cellsT s' ∧ lastT s' A' = lastT s A ∧ IntSl .i64 h2 q (fillT (cellsT s') A') ∧ Keep h.length h h2) ?_ lf s _ (by omega) ⟨s, A, q, h2, rfl, rfl, s1, s4, hA, rfl, by rw [← hx]; exact o2.int, k2⟩
      rintro n1 m st ⟨s', A', q', h3, rfl, rfl, t1, t4, hA', hL, o3, k3⟩ next
      have hc10 := cellsT_le t4
      rw [spec_LastCell.body0_eq]
      unfold spec_LastCell.body0
      simp only [env_C, env_bin]
      by_cases hs1 : s' = 1
      · subst hs1
        have hat : (0 : Nat) < (fillT (cellsT 1) A').length := by rw [fillT_length]; decide
        obtain ⟨a, ea, la⟩ := o3.at' (i := 0) hat
        have v1 := fillT_at (n := cellsT 1) (A := A') (k := 0) rfl (by decide) hat
        rw [v1] at la
        have hl1 : lastT 1 A' = A'.testBit 0 := rfl
        rw [← hL, hl1]
        have ea : indexAddrP Tryd.prog 25 q' (.int .i64 0) = some a := ea
        obtain ⟨x, hx'⟩ : ∃ x : Int, x = (if A'.testBit 0 = true then 1 else 2) := ⟨_, rfl⟩
        rw [← hx'] at la ⊢
        repeat (first | with_reducible refine wF ?_ | with_reducible refine wrI ?_ | with_reducible refine wbd (by assumption) ?_ | with_reducible refine wgtrF (by omega) ?_ | rw [kLoop_exit] | rw [spec_LastCell.after0_se0_5_6_16] | simp only [env_C, env_g, env_lf, env_pick, env_alloc, env_box, env_build, env_buildSlice, env_load, env_store, env_ptr, env_bin, env_un, env_conv, env_make, env_slice, env_fieldAddr, env_field, env_indexAddr, env_index, env_extract, env_len, env_append, env_max, env_min, env_makeMap, env_lookup, env_update])
        exact W.ret ⟨rfl, k3⟩
      · have h2' : 2 ≤ s' := by omega
        have hf' : (fillT (cellsT s') A').length < lf := by rw [fillT_length]; omega
        have hl' : (fillT (cellsT s') A').length ≤ 2 ^ 35 := by rw [fillT_length]; omega
        have hT' := Tri.fill t1 t4 hA'
        obtain ⟨q4, h4, e4, o4, k4⟩ := specShrunk_calls g lf n (by omega) (s' : Int) o3 hl' hf' hlf
        rw [tri_shrunk hT' h2'] at o4
        have hsl := (shr_lt hT' h2').1
        have hs1' : 1 ≤ s' := t1
        repeat (first | with_reducible refine wT ?_ | with_reducible refine wbd (by assumption) ?_ | (with_reducible refine wsub1 hs1' (by omega) ?_) | with_reducible refine wgtrT (by omega) ?_ | dsimp only)
        exact next _ _ (by omega) ⟨s' - 1, shrT s' A', q4, h4, rfl, rfl, by omega, by omega, hsl, by rw [← last_shr h2']; exact hL, o4.int, k3.trans (k4.mono k3.1)⟩
  obtain ⟨_, h', e, rfl, k⟩ := this
  exact ⟨h', e, k⟩

end Go.Proofs.YtlefknibddkjpaaDoor

/- The model's chapter 7, continued: who has joined all sides. -/
set_option maxRecDepth 20000
namespace Go.Proofs.YtlefknibddkjpaaDoor
open Go Go.Ip G

def fL (G k : Nat) : Bool := G.testBit k && plT k == 0
def fR (G k : Nat) : Bool := G.testBit k && plT k == rowT k
def fD (s G k : Nat) : Bool := G.testBit k && rowT k + 1 == s
theorem any_succ {f : Nat → Bool} {k : Nat} : (List.range (k + 1)).any f = ((List.range k).any f || f k) := by
  rw [List.range_succ, List.any_append]; simp
theorem grow_and {M : List Nat} {own c : Nat} : growT M own ((1 <<< c) &&& own) = growT M own (1 <<< c) := by
  unfold growT; rw [Nat.and_assoc, Nat.and_self]
variable (g : Nat → PV) (lf n : Nat)

set_option maxHeartbeats 4000000 in
theorem specJoinsAll_calls {xs : List Int} {p : PV} {h : PHeap} (N : Nat) (hN : 4 ≤ N) (side pl : Int) (hp : IntSl .i64 h p xs) (hl : xs.length ≤ 2 ^ 35) (hf : xs.length < lf) (hlf : 2000 < lf) :
    ∃ h', CL g lf N fn_spec_JoinsAll [.int .i64 side, p, .int .i64 pl] h = some (.bool (joinsAllL side xs pl), h') ∧ Keep h.length h h' := by
  obtain ⟨n, rfl⟩ : ∃ n, N = n + 1 := ⟨N - 1, by omega⟩
  have : W (CL g lf (n + 1) fn_spec_JoinsAll [.int .i64 side, p, .int .i64 pl] h) fun v h' => v = .bool (joinsAllL side xs pl) ∧ Keep h.length h h' := by
    have eT := specTriangleOk_N g lf n (by omega) side hp hl hf
    have e1 := l1In_N g lf n (by omega) h pl 1 2
    rw [spec_JoinsAll.call_eq]
    unfold spec_JoinsAll.main
    simp only [env_C, env_lf, env_pick, env_un]
    cases hb : triB side xs with
    | false =>
      rw [hb] at eT
      have hno : joinsAllL side xs pl = false := by unfold joinsAllL; rw [hb]; rfl
      rw [hno]
      repeat (first | with_reducible refine wT ?_ | with_reducible refine wg0 rfl ?_ | with_reducible refine wpT ?_ | with_reducible refine wnF ?_ | with_reducible refine wsm ?_ | with_reducible refine wrB ?_ | with_reducible refine wbd (by assumption) ?_ | dsimp only)
      exact W.ret ⟨rfl, Keep.refl _ _⟩
    | true =>
    rw [hb] at eT
    by_cases hP : 1 ≤ pl ∧ pl ≤ 2
    case neg =>
      rw [decide_eq_false hP] at e1
      have hno : joinsAllL side xs pl = false := by unfold joinsAllL playerB; rw [hb, decide_eq_false (by omega)]; rfl
      rw [hno]
      repeat (first | with_reducible refine wT ?_ | with_reducible refine wg1 rfl ?_ | with_reducible refine wpF ?_ | with_reducible refine wnT ?_ | with_reducible refine wnF ?_ | with_reducible refine wpv ?_ | with_reducible refine wsm ?_ | with_reducible refine wrB ?_ | with_reducible refine wbd (by assumption) ?_ | dsimp only)
      exact W.ret ⟨rfl, Keep.refl _ _⟩
    rw [decide_eq_true hP] at e1
    obtain ⟨s, A, hT⟩ := tri_of hb
    obtain ⟨rfl, s1, s4, hA, hx, hlen, _, _⟩ := id hT
    have hJ : joinsAllL (s : Int) xs pl = joinT s (setL xs pl) := by unfold joinsAllL playerB; rw [hb, decide_eq_true (by omega), Int.toNat_natCast]; rfl
    rw [hJ]
    have hc10 := cellsT_le s4
    obtain ⟨T, hT'⟩ : ∃ T, T = cellsT s := ⟨_, rfl⟩
    rw [← hT'] at hlen hc10
    obtain ⟨qm, h1, e2, o1, k1⟩ := l7Near_calls g lf (s := s) s1 s4 n (by omega) (by omega) h
    have hp1 := hp.keep k1
    have hlx := hp1.len'
    rw [hlen] at hlx
    have e3 := l2Set_calls g lf pl hp1 (by omega) n (by omega) (by omega)
    obtain ⟨own, hown⟩ : ∃ own, own = setL xs pl := ⟨_, rfl⟩
    have hown10 : own < 2 ^ 10 := by rw [hown]; exact setL_lt pl (by omega)
    have hown62 : own < 2 ^ 62 := Nat.lt_of_lt_of_le hown10 (by decide)
    rw [← hown] at e3 ⊢
    have hMm : ∀ m ∈ masksT s, m < 2 ^ 10 := fun m hm => by
      unfold masksT at hm
      obtain ⟨a, _, rfl⟩ := List.mem_map.1 hm
      exact maskT_lt s4
    have hMl : (masksT s).length ≤ 10 := by rw [masksT_length]; omega
    repeat (first | with_reducible refine wF ?_ | with_reducible refine wg1 rfl ?_ | with_reducible refine wpF ?_ | with_reducible refine wnT ?_ | with_reducible refine wpv ?_ | with_reducible refine wsm ?_ | with_reducible refine wbd (by assumption) ?_ | dsimp only)
    refine loopW (fun m st => ∃ (c : Nat), st = spec_JoinsAll.st0 (.int .i64 (s : Int)) p qm (.int .i64 (own : Int)) (.int .i64 (c : Int)) h1 ∧ c + m = T ∧ ∀ c', c' < c → allT s (growT (masksT s) own (1 <<< c')) = false) ?_ lf T _ (by omega) ⟨0, rfl, by omega, fun c' h => by omega⟩
    rintro n1 m st ⟨c, rfl, hcm, hall⟩ next
    rw [spec_JoinsAll.body0_eq]
    unfold spec_JoinsAll.body0
    simp only [env_C, env_lf, env_bin, env_len]
    cases m with
    | zero =>
      have hno : joinT s own = false := by
        unfold joinT
        rw [List.any_eq_false]
        intro c' hc'
        rw [hall c' (by have := List.mem_range.1 hc'; omega)]; decide
      rw [hno]
      repeat (first | with_reducible refine wF ?_ | with_reducible refine wrB ?_ | with_reducible refine wbd (by assumption) ?_ | with_reducible refine wlssF (by omega) ?_ | rw [kLoop_exit] | rw [spec_JoinsAll.after0_se0_0_1_7_8_9_35])
      exact W.ret ⟨rfl, k1⟩
    | succ m =>
    have hc : c < T := by omega
    have hc30 : c ≤ 30 := by omega
    have h1c : 1 <<< c < 2 ^ 62 := by rw [Nat.one_shiftLeft]; exact Nat.pow_lt_pow_right (by decide) (by omega)
    have hfr : (1 <<< c) &&& own < 2 ^ 62 := Nat.lt_of_le_of_lt Nat.and_le_right hown62
    have e4 := l2GrowT_calls g lf o1.int hMm hMl hown10 hfr n (by omega) hlf
    rw [grow_and] at e4
    have hallc := fun (e : allT s (growT (masksT s) own (1 <<< c)) = true) => (show joinT s own = true by
      unfold joinT
      rw [List.any_eq_true]
      exact ⟨c, List.mem_range.2 (by omega), e⟩)
    have hallT : allT s (growT (masksT s) own (1 <<< c)) = ((List.range T).any (fL (growT (masksT s) own (1 <<< c))) && (List.range T).any (fR (growT (masksT s) own (1 <<< c))) && (List.range T).any (fD s (growT (masksT s) own (1 <<< c)))) := by rw [hT']; rfl
    obtain ⟨G, hG⟩ : ∃ G, G = growT (masksT s) own (1 <<< c) := ⟨_, rfl⟩
    rw [← hG] at e4 hallc hallT
    repeat (first | with_reducible refine wT ?_ | with_reducible refine wbd (by assumption) ?_ | (with_reducible refine wshl hc30 ?_) | (with_reducible refine wand h1c hown62 ?_) | with_reducible refine wlssT (by omega) ?_ | dsimp only)
    refine loopW (fun m2 st => ∃ (k : Nat) (L R D : Bool), st = spec_JoinsAll.st1 (.int .i64 (s : Int)) p qm (.int .i64 (own : Int)) (.int .i64 (c : Int)) (.int .i64 (G : Int)) (.bool L) (.bool R) (.bool D) (.int .i64 (k : Int)) h1 ∧ k + m2 = T ∧ L = (List.range k).any (fL G) ∧ R = (List.range k).any (fR G) ∧ D = (List.range k).any (fD s G)) ?_ lf T _ (by omega) ⟨0, false, false, false, rfl, by omega, rfl, rfl, rfl⟩
    rintro n2 m2 st ⟨k, L, R, D, rfl, hkm, hL, hR, hD⟩ next2
    have hs1 : 1 ≤ s := s1
    rw [spec_JoinsAll.body1_eq]
    unfold spec_JoinsAll.body1
    simp only [env_C, env_pick, env_bin, env_extract, env_len]
    cases m2 with
    | zero =>
      have hkT : k = T := by omega
      rw [hkT] at hL hR hD
      rw [← hL, ← hR, ← hD] at hallT
      have again : allT s G = false → ∀ c', c' < c + 1 → allT s (growT (masksT s) own (1 <<< c')) = false := fun e c' h => by
        by_cases e' : c' = c
        · subst e'; rw [← hG]; exact e
        · exact hall c' (by omega)
      cases L with
      | true =>
        cases R with
        | true =>
          cases D with
          | true =>
            rw [hallc hallT]
            repeat (first | with_reducible refine wT ?_ | with_reducible refine wF ?_ | with_reducible refine wg1 rfl ?_ | with_reducible refine wpT ?_ | with_reducible refine wsm ?_ | with_reducible refine wrB ?_ | with_reducible refine wbd (by assumption) ?_ | with_reducible refine wlssF (by omega) ?_ | rw [kLoop_exit] | rw [kLoop_ret] | rw [spec_JoinsAll.K0_ret] | rw [spec_JoinsAll.after1_se2_0_1_7_8_9_10_11_12_13_14_48] | rw [spec_JoinsAll.top_sr_6] | dsimp only | simp only [env_C, env_g, env_lf, env_pick, env_alloc, env_box, env_build, env_buildSlice, env_load, env_store, env_ptr, env_bin, env_un, env_conv, env_make, env_slice, env_fieldAddr, env_field, env_indexAddr, env_index, env_extract, env_len, env_append, env_max, env_min, env_makeMap, env_lookup, env_update])
            exact W.ret ⟨rfl, k1⟩
          | false =>
            repeat (first | with_reducible refine wF ?_ | with_reducible refine wg1 rfl ?_ | with_reducible refine wpT ?_ | with_reducible refine wsm ?_ | with_reducible refine wbd (by assumption) ?_ | with_reducible refine wadd1 (by omega) ?_ | with_reducible refine wlssF (by omega) ?_ | rw [kLoop_exit] | rw [spec_JoinsAll.after1_se2_0_1_7_8_9_10_11_12_13_14_48] | dsimp only | simp only [env_C, env_g, env_lf, env_pick, env_alloc, env_box, env_build, env_buildSlice, env_load, env_store, env_ptr, env_bin, env_un, env_conv, env_make, env_slice, env_fieldAddr, env_field, env_indexAddr, env_index, env_extract, env_len, env_append, env_max, env_min, env_makeMap, env_lookup, env_update])
            exact next _ _ (Nat.lt_succ_self m) ⟨c + 1, rfl, by omega, again hallT⟩
        | false =>
          cases D with
          | true =>
            repeat (first | with_reducible refine wF ?_ | with_reducible refine wg1 rfl ?_ | with_reducible refine wg0 rfl ?_ | with_reducible refine wpT ?_ | with_reducible refine wpF ?_ | with_reducible refine wsm ?_ | with_reducible refine wbd (by assumption) ?_ | with_reducible refine wadd1 (by omega) ?_ | with_reducible refine wlssF (by omega) ?_ | rw [kLoop_exit] | rw [spec_JoinsAll.after1_se2_0_1_7_8_9_10_11_12_13_14_48] | dsimp only | simp only [env_C, env_g, env_lf, env_pick, env_alloc, env_box, env_build, env_buildSlice, env_load, env_store, env_ptr, env_bin, env_un, env_conv, env_make, env_slice, env_fieldAddr, env_field, env_indexAddr, env_index, env_extract, env_len, env_append, env_max, env_min, env_makeMap, env_lookup, env_update])
            exact next _ _ (Nat.lt_succ_self m) ⟨c + 1, rfl, by omega, again hallT⟩
          | false =>
            repeat (first | with_reducible refine wF ?_ | with_reducible refine wg1 rfl ?_ | with_reducible refine wg0 rfl ?_ | with_reducible refine wpT ?_ | with_reducible refine wpF ?_ | with_reducible refine wsm ?_ | with_reducible refine wbd (by assumption) ?_ | with_reducible refine wadd1 (by omega) ?_ | with_reducible refine wlssF (by omega) ?_ | rw [kLoop_exit] | rw [spec_JoinsAll.after1_se2_0_1_7_8_9_10_11_12_13_14_48] | dsimp only | simp only [env_C, env_g, env_lf, env_pick, env_alloc, env_box, env_build, env_buildSlice, env_load, env_store, env_ptr, env_bin, env_un, env_conv, env_make, env_slice, env_fieldAddr, env_field, env_indexAddr, env_index, env_extract, env_len, env_append, env_max, env_min, env_makeMap, env_lookup, env_update])
            exact next _ _ (Nat.lt_succ_self m) ⟨c + 1, rfl, by omega, again hallT⟩
      | false =>
        cases R with
        | true =>
          cases D with
          | true =>
            repeat (first | with_reducible refine wF ?_ | with_reducible refine wg0 rfl ?_ | with_reducible refine wpF ?_ | with_reducible refine wsm ?_ | with_reducible refine wbd (by assumption) ?_ | with_reducible refine wadd1 (by omega) ?_ | with_reducible refine wlssF (by omega) ?_ | rw [kLoop_exit] | rw [spec_JoinsAll.after1_se2_0_1_7_8_9_10_11_12_13_14_48] | dsimp only | simp only [env_C, env_g, env_lf, env_pick, env_alloc, env_box, env_build, env_buildSlice, env_load, env_store, env_ptr, env_bin, env_un, env_conv, env_make, env_slice, env_fieldAddr, env_field, env_indexAddr, env_index, env_extract, env_len, env_append, env_max, env_min, env_makeMap, env_lookup, env_update])
            exact next _ _ (Nat.lt_succ_self m) ⟨c + 1, rfl, by omega, again hallT⟩
          | false =>
            repeat (first | with_reducible refine wF ?_ | with_reducible refine wg0 rfl ?_ | with_reducible refine wpF ?_ | with_reducible refine wsm ?_ | with_reducible refine wbd (by assumption) ?_ | with_reducible refine wadd1 (by omega) ?_ | with_reducible refine wlssF (by omega) ?_ | rw [kLoop_exit] | rw [spec_JoinsAll.after1_se2_0_1_7_8_9_10_11_12_13_14_48] | dsimp only | simp only [env_C, env_g, env_lf, env_pick, env_alloc, env_box, env_build, env_buildSlice, env_load, env_store, env_ptr, env_bin, env_un, env_conv, env_make, env_slice, env_fieldAddr, env_field, env_indexAddr, env_index, env_extract, env_len, env_append, env_max, env_min, env_makeMap, env_lookup, env_update])
            exact next _ _ (Nat.lt_succ_self m) ⟨c + 1, rfl, by omega, again hallT⟩
        | false =>
          cases D with
          | true =>
            repeat (first | with_reducible refine wF ?_ | with_reducible refine wg0 rfl ?_ | with_reducible refine wpF ?_ | with_reducible refine wsm ?_ | with_reducible refine wbd (by assumption) ?_ | with_reducible refine wadd1 (by omega) ?_ | with_reducible refine wlssF (by omega) ?_ | rw [kLoop_exit] | rw [spec_JoinsAll.after1_se2_0_1_7_8_9_10_11_12_13_14_48] | dsimp only | simp only [env_C, env_g, env_lf, env_pick, env_alloc, env_box, env_build, env_buildSlice, env_load, env_store, env_ptr, env_bin, env_un, env_conv, env_make, env_slice, env_fieldAddr, env_field, env_indexAddr, env_index, env_extract, env_len, env_append, env_max, env_min, env_makeMap, env_lookup, env_update])
            exact next _ _ (Nat.lt_succ_self m) ⟨c + 1, rfl, by omega, again hallT⟩
          | false =>
            repeat (first | with_reducible refine wF ?_ | with_reducible refine wg0 rfl ?_ | with_reducible refine wpF ?_ | with_reducible refine wsm ?_ | with_reducible refine wbd (by assumption) ?_ | with_reducible refine wadd1 (by omega) ?_ | with_reducible refine wlssF (by omega) ?_ | rw [kLoop_exit] | rw [spec_JoinsAll.after1_se2_0_1_7_8_9_10_11_12_13_14_48] | dsimp only | simp only [env_C, env_g, env_lf, env_pick, env_alloc, env_box, env_build, env_buildSlice, env_load, env_store, env_ptr, env_bin, env_un, env_conv, env_make, env_slice, env_fieldAddr, env_field, env_indexAddr, env_index, env_extract, env_len, env_append, env_max, env_min, env_makeMap, env_lookup, env_update])
            exact next _ _ (Nat.lt_succ_self m) ⟨c + 1, rfl, by omega, again hallT⟩
    | succ m2 =>
      have hk : k < T := by omega
      have eP := fun hh => l7Place_N g lf (k := k) (by omega) n (by omega) (by omega) hh
      obtain ⟨r1, r2⟩ := place_le (k := k) (by omega)
      obtain ⟨m1, hm⟩ : ∃ m1, m1 = G >>> k % 2 := ⟨_, rfl⟩
      have hm2 : m1 < 2 := by rw [hm]; exact Nat.mod_lt _ (by decide)
      have hbi := bit_iff G k
      rw [← hm] at hbi
      by_cases hm1 : m1 = 1
      · have hin : G.testBit k = true := hbi.1 hm1
        cases L with
        | true =>
          cases R with
          | true =>
            cases D with
            | true =>
              repeat (first | with_reducible refine wT ?_ | with_reducible refine wg0 rfl ?_ | with_reducible refine wgu ?_ | with_reducible refine wpT ?_ | with_reducible refine wsm ?_ | with_reducible refine wx0 ?_ | with_reducible refine wx1 ?_ | with_reducible refine wbd (by assumption) ?_ | (with_reducible refine wbd (eP _) ?_) | (rw [← hm]) | with_reducible refine wadd1 (by omega) ?_ | with_reducible refine wrem2 ?_ | with_reducible refine wshr (by omega) ?_ | with_reducible refine wlssT (by omega) ?_ | with_reducible refine weqlT (by omega) ?_ | dsimp only)
              exact next2 _ _ (Nat.lt_succ_self m2) ⟨k + 1, true, true, true, rfl, by omega, by rw [any_succ, ← hL]; rfl, by rw [any_succ, ← hR]; rfl, by rw [any_succ, ← hD]; rfl⟩
            | false =>
              by_cases c3 : rowT k + 1 = s
              · have eDt : fD s G k = true := by unfold fD; rw [hin, Bool.true_and, beq_iff_eq]; exact c3
                repeat (first | with_reducible refine wT ?_ | with_reducible refine wg1 rfl ?_ | with_reducible refine wg0 rfl ?_ | with_reducible refine wgu ?_ | with_reducible refine wpT ?_ | with_reducible refine wpF ?_ | with_reducible refine wpv ?_ | with_reducible refine wsm ?_ | with_reducible refine wx0 ?_ | with_reducible refine wx1 ?_ | with_reducible refine wbd (by assumption) ?_ | (with_reducible refine wbd (eP _) ?_) | (rw [← hm]) | (with_reducible refine wsub1 hs1 (by omega) ?_) | with_reducible refine wadd1 (by omega) ?_ | with_reducible refine wrem2 ?_ | with_reducible refine wshr (by omega) ?_ | with_reducible refine wlssT (by omega) ?_ | with_reducible refine weqlT (by omega) ?_ | dsimp only)
                exact next2 _ _ (Nat.lt_succ_self m2) ⟨k + 1, true, true, true, rfl, by omega, by rw [any_succ, ← hL]; rfl, by rw [any_succ, ← hR]; rfl, by rw [any_succ, ← hD, eDt]; rfl⟩
              · have eDf : fD s G k = false := by unfold fD; rw [hin, Bool.true_and, beq_eq_false_iff_ne]; exact c3
                repeat (first | with_reducible refine wT ?_ | with_reducible refine wg1 rfl ?_ | with_reducible refine wg0 rfl ?_ | with_reducible refine wgu ?_ | with_reducible refine wpT ?_ | with_reducible refine wpF ?_ | with_reducible refine wpv ?_ | with_reducible refine wsm ?_ | with_reducible refine wx0 ?_ | with_reducible refine wx1 ?_ | with_reducible refine wbd (by assumption) ?_ | (with_reducible refine wbd (eP _) ?_) | (rw [← hm]) | (with_reducible refine wsub1 hs1 (by omega) ?_) | with_reducible refine wadd1 (by omega) ?_ | with_reducible refine wrem2 ?_ | with_reducible refine wshr (by omega) ?_ | with_reducible refine wlssT (by omega) ?_ | with_reducible refine weqlT (by omega) ?_ | with_reducible refine weqlF (by omega) ?_ | dsimp only)
                exact next2 _ _ (Nat.lt_succ_self m2) ⟨k + 1, true, true, false, rfl, by omega, by rw [any_succ, ← hL]; rfl, by rw [any_succ, ← hR]; rfl, by rw [any_succ, ← hD, eDf]; rfl⟩
          | false =>
            by_cases c2 : plT k = rowT k
            · have eRt : fR G k = true := by unfold fR; rw [hin, Bool.true_and, beq_iff_eq]; exact c2
              cases D with
              | true =>
                repeat (first | with_reducible refine wT ?_ | with_reducible refine wg1 rfl ?_ | with_reducible refine wg0 rfl ?_ | with_reducible refine wgu ?_ | with_reducible refine wpT ?_ | with_reducible refine wpF ?_ | with_reducible refine wpv ?_ | with_reducible refine wsm ?_ | with_reducible refine wx0 ?_ | with_reducible refine wx1 ?_ | with_reducible refine wbd (by assumption) ?_ | (with_reducible refine wbd (eP _) ?_) | (rw [← hm]) | with_reducible refine wadd1 (by omega) ?_ | with_reducible refine wrem2 ?_ | with_reducible refine wshr (by omega) ?_ | with_reducible refine wlssT (by omega) ?_ | with_reducible refine weqlT (by omega) ?_ | dsimp only)
                exact next2 _ _ (Nat.lt_succ_self m2) ⟨k + 1, true, true, true, rfl, by omega, by rw [any_succ, ← hL]; rfl, by rw [any_succ, ← hR, eRt]; rfl, by rw [any_succ, ← hD]; rfl⟩
              | false =>
                by_cases c3 : rowT k + 1 = s
                · have eDt : fD s G k = true := by unfold fD; rw [hin, Bool.true_and, beq_iff_eq]; exact c3
                  repeat (first | with_reducible refine wT ?_ | with_reducible refine wg1 rfl ?_ | with_reducible refine wg0 rfl ?_ | with_reducible refine wgu ?_ | with_reducible refine wpT ?_ | with_reducible refine wpF ?_ | with_reducible refine wpv ?_ | with_reducible refine wsm ?_ | with_reducible refine wx0 ?_ | with_reducible refine wx1 ?_ | with_reducible refine wbd (by assumption) ?_ | (with_reducible refine wbd (eP _) ?_) | (rw [← hm]) | (with_reducible refine wsub1 hs1 (by omega) ?_) | with_reducible refine wadd1 (by omega) ?_ | with_reducible refine wrem2 ?_ | with_reducible refine wshr (by omega) ?_ | with_reducible refine wlssT (by omega) ?_ | with_reducible refine weqlT (by omega) ?_ | dsimp only)
                  exact next2 _ _ (Nat.lt_succ_self m2) ⟨k + 1, true, true, true, rfl, by omega, by rw [any_succ, ← hL]; rfl, by rw [any_succ, ← hR, eRt]; rfl, by rw [any_succ, ← hD, eDt]; rfl⟩
                · have eDf : fD s G k = false := by unfold fD; rw [hin, Bool.true_and, beq_eq_false_iff_ne]; exact c3
                  repeat (first | with_reducible refine wT ?_ | with_reducible refine wg1 rfl ?_ | with_reducible refine wg0 rfl ?_ | with_reducible refine wgu ?_ | with_reducible refine wpT ?_ | with_reducible refine wpF ?_ | with_reducible refine wpv ?_ | with_reducible refine wsm ?_ | with_reducible refine wx0 ?_ | with_reducible refine wx1 ?_ | with_reducible refine wbd (by assumption) ?_ | (with_reducible refine wbd (eP _) ?_) | (rw [← hm]) | (with_reducible refine wsub1 hs1 (by omega) ?_) | with_reducible refine wadd1 (by omega) ?_ | with_reducible refine wrem2 ?_ | with_reducible refine wshr (by omega) ?_ | with_reducible refine wlssT (by omega) ?_ | with_reducible refine weqlT (by omega) ?_ | with_reducible refine weqlF (by omega) ?_ | dsimp only)
                  exact next2 _ _ (Nat.lt_succ_self m2) ⟨k + 1, true, true, false, rfl, by omega, by rw [any_succ, ← hL]; rfl, by rw [any_succ, ← hR, eRt]; rfl, by rw [any_succ, ← hD, eDf]; rfl⟩
            · have eRf : fR G k = false := by unfold fR; rw [hin, Bool.true_and, beq_eq_false_iff_ne]; exact c2
              cases D with
              | true =>
                repeat (first | with_reducible refine wT ?_ | with_reducible refine wg1 rfl ?_ | with_reducible refine wg0 rfl ?_ | with_reducible refine wgu ?_ | with_reducible refine wpT ?_ | with_reducible refine wpF ?_ | with_reducible refine wpv ?_ | with_reducible refine wsm ?_ | with_reducible refine wx0 ?_ | with_reducible refine wx1 ?_ | with_reducible refine wbd (by assumption) ?_ | (with_reducible refine wbd (eP _) ?_) | (rw [← hm]) | with_reducible refine wadd1 (by omega) ?_ | with_reducible refine wrem2 ?_ | with_reducible refine wshr (by omega) ?_ | with_reducible refine wlssT (by omega) ?_ | with_reducible refine weqlT (by omega) ?_ | with_reducible refine weqlF (by omega) ?_ | dsimp only)
                exact next2 _ _ (Nat.lt_succ_self m2) ⟨k + 1, true, false, true, rfl, by omega, by rw [any_succ, ← hL]; rfl, by rw [any_succ, ← hR, eRf]; rfl, by rw [any_succ, ← hD]; rfl⟩
              | false =>
                by_cases c3 : rowT k + 1 = s
                · have eDt : fD s G k = true := by unfold fD; rw [hin, Bool.true_and, beq_iff_eq]; exact c3
                  repeat (first | with_reducible refine wT ?_ | with_reducible refine wg1 rfl ?_ | with_reducible refine wg0 rfl ?_ | with_reducible refine wgu ?_ | with_reducible refine wpT ?_ | with_reducible refine wpF ?_ | with_reducible refine wpv ?_ | with_reducible refine wsm ?_ | with_reducible refine wx0 ?_ | with_reducible refine wx1 ?_ | with_reducible refine wbd (by assumption) ?_ | (with_reducible refine wbd (eP _) ?_) | (rw [← hm]) | (with_reducible refine wsub1 hs1 (by omega) ?_) | with_reducible refine wadd1 (by omega) ?_ | with_reducible refine wrem2 ?_ | with_reducible refine wshr (by omega) ?_ | with_reducible refine wlssT (by omega) ?_ | with_reducible refine weqlT (by omega) ?_ | with_reducible refine weqlF (by omega) ?_ | dsimp only)
                  exact next2 _ _ (Nat.lt_succ_self m2) ⟨k + 1, true, false, true, rfl, by omega, by rw [any_succ, ← hL]; rfl, by rw [any_succ, ← hR, eRf]; rfl, by rw [any_succ, ← hD, eDt]; rfl⟩
                · have eDf : fD s G k = false := by unfold fD; rw [hin, Bool.true_and, beq_eq_false_iff_ne]; exact c3
                  repeat (first | with_reducible refine wT ?_ | with_reducible refine wg1 rfl ?_ | with_reducible refine wg0 rfl ?_ | with_reducible refine wgu ?_ | with_reducible refine wpT ?_ | with_reducible refine wpF ?_ | with_reducible refine wpv ?_ | with_reducible refine wsm ?_ | with_reducible refine wx0 ?_ | with_reducible refine wx1 ?_ | with_reducible refine wbd (by assumption) ?_ | (with_reducible refine wbd (eP _) ?_) | (rw [← hm]) | (with_reducible refine wsub1 hs1 (by omega) ?_) | with_reducible refine wadd1 (by omega) ?_ | with_reducible refine wrem2 ?_ | with_reducible refine wshr (by omega) ?_ | with_reducible refine wlssT (by omega) ?_ | with_reducible refine weqlT (by omega) ?_ | with_reducible refine weqlF (by omega) ?_ | dsimp only)
                  exact next2 _ _ (Nat.lt_succ_self m2) ⟨k + 1, true, false, false, rfl, by omega, by rw [any_succ, ← hL]; rfl, by rw [any_succ, ← hR, eRf]; rfl, by rw [any_succ, ← hD, eDf]; rfl⟩
        | false =>
          by_cases c1 : plT k = 0
          · have eLt : fL G k = true := by unfold fL; rw [hin, Bool.true_and, beq_iff_eq]; exact c1
            cases R with
            | true =>
              cases D with
              | true =>
                repeat (first | with_reducible refine wT ?_ | with_reducible refine wg1 rfl ?_ | with_reducible refine wg0 rfl ?_ | with_reducible refine wgu ?_ | with_reducible refine wpT ?_ | with_reducible refine wpF ?_ | with_reducible refine wpv ?_ | with_reducible refine wsm ?_ | with_reducible refine wx0 ?_ | with_reducible refine wx1 ?_ | with_reducible refine wbd (by assumption) ?_ | (with_reducible refine wbd (eP _) ?_) | (rw [← hm]) | with_reducible refine wadd1 (by omega) ?_ | with_reducible refine wrem2 ?_ | with_reducible refine wshr (by omega) ?_ | with_reducible refine wlssT (by omega) ?_ | with_reducible refine weqlT (by omega) ?_ | dsimp only)
                exact next2 _ _ (Nat.lt_succ_self m2) ⟨k + 1, true, true, true, rfl, by omega, by rw [any_succ, ← hL, eLt]; rfl, by rw [any_succ, ← hR]; rfl, by rw [any_succ, ← hD]; rfl⟩
              | false =>
                by_cases c3 : rowT k + 1 = s
                · have eDt : fD s G k = true := by unfold fD; rw [hin, Bool.true_and, beq_iff_eq]; exact c3
                  repeat (first | with_reducible refine wT ?_ | with_reducible refine wg1 rfl ?_ | with_reducible refine wg0 rfl ?_ | with_reducible refine wgu ?_ | with_reducible refine wpT ?_ | with_reducible refine wpF ?_ | with_reducible refine wpv ?_ | with_reducible refine wsm ?_ | with_reducible refine wx0 ?_ | with_reducible refine wx1 ?_ | with_reducible refine wbd (by assumption) ?_ | (with_reducible refine wbd (eP _) ?_) | (rw [← hm]) | (with_reducible refine wsub1 hs1 (by omega) ?_) | with_reducible refine wadd1 (by omega) ?_ | with_reducible refine wrem2 ?_ | with_reducible refine wshr (by omega) ?_ | with_reducible refine wlssT (by omega) ?_ | with_reducible refine weqlT (by omega) ?_ | dsimp only)
                  exact next2 _ _ (Nat.lt_succ_self m2) ⟨k + 1, true, true, true, rfl, by omega, by rw [any_succ, ← hL, eLt]; rfl, by rw [any_succ, ← hR]; rfl, by rw [any_succ, ← hD, eDt]; rfl⟩
                · have eDf : fD s G k = false := by unfold fD; rw [hin, Bool.true_and, beq_eq_false_iff_ne]; exact c3
                  repeat (first | with_reducible refine wT ?_ | with_reducible refine wg1 rfl ?_ | with_reducible refine wg0 rfl ?_ | with_reducible refine wgu ?_ | with_reducible refine wpT ?_ | with_reducible refine wpF ?_ | with_reducible refine wpv ?_ | with_reducible refine wsm ?_ | with_reducible refine wx0 ?_ | with_reducible refine wx1 ?_ | with_reducible refine wbd (by assumption) ?_ | (with_reducible refine wbd (eP _) ?_) | (rw [← hm]) | (with_reducible refine wsub1 hs1 (by omega) ?_) | with_reducible refine wadd1 (by omega) ?_ | with_reducible refine wrem2 ?_ | with_reducible refine wshr (by omega) ?_ | with_reducible refine wlssT (by omega) ?_ | with_reducible refine weqlT (by omega) ?_ | with_reducible refine weqlF (by omega) ?_ | dsimp only)
                  exact next2 _ _ (Nat.lt_succ_self m2) ⟨k + 1, true, true, false, rfl, by omega, by rw [any_succ, ← hL, eLt]; rfl, by rw [any_succ, ← hR]; rfl, by rw [any_succ, ← hD, eDf]; rfl⟩
            | false =>
              by_cases c2 : plT k = rowT k
              · have eRt : fR G k = true := by unfold fR; rw [hin, Bool.true_and, beq_iff_eq]; exact c2
                cases D with
                | true =>
                  repeat (first | with_reducible refine wT ?_ | with_reducible refine wg1 rfl ?_ | with_reducible refine wg0 rfl ?_ | with_reducible refine wgu ?_ | with_reducible refine wpT ?_ | with_reducible refine wpF ?_ | with_reducible refine wpv ?_ | with_reducible refine wsm ?_ | with_reducible refine wx0 ?_ | with_reducible refine wx1 ?_ | with_reducible refine wbd (by assumption) ?_ | (with_reducible refine wbd (eP _) ?_) | (rw [← hm]) | with_reducible refine wadd1 (by omega) ?_ | with_reducible refine wrem2 ?_ | with_reducible refine wshr (by omega) ?_ | with_reducible refine wlssT (by omega) ?_ | with_reducible refine weqlT (by omega) ?_ | dsimp only)
                  exact next2 _ _ (Nat.lt_succ_self m2) ⟨k + 1, true, true, true, rfl, by omega, by rw [any_succ, ← hL, eLt]; rfl, by rw [any_succ, ← hR, eRt]; rfl, by rw [any_succ, ← hD]; rfl⟩
                | false =>
                  by_cases c3 : rowT k + 1 = s
                  · have eDt : fD s G k = true := by unfold fD; rw [hin, Bool.true_and, beq_iff_eq]; exact c3
                    repeat (first | with_reducible refine wT ?_ | with_reducible refine wg1 rfl ?_ | with_reducible refine wpT ?_ | with_reducible refine wpF ?_ | with_reducible refine wpv ?_ | with_reducible refine wsm ?_ | with_reducible refine wx0 ?_ | with_reducible refine wx1 ?_ | with_reducible refine wbd (by assumption) ?_ | (with_reducible refine wbd (eP _) ?_) | (rw [← hm]) | (with_reducible refine wsub1 hs1 (by omega) ?_) | with_reducible refine wadd1 (by omega) ?_ | with_reducible refine wrem2 ?_ | with_reducible refine wshr (by omega) ?_ | with_reducible refine wlssT (by omega) ?_ | with_reducible refine weqlT (by omega) ?_ | dsimp only)
                    exact next2 _ _ (Nat.lt_succ_self m2) ⟨k + 1, true, true, true, rfl, by omega, by rw [any_succ, ← hL, eLt]; rfl, by rw [any_succ, ← hR, eRt]; rfl, by rw [any_succ, ← hD, eDt]; rfl⟩
                  · have eDf : fD s G k = false := by unfold fD; rw [hin, Bool.true_and, beq_eq_false_iff_ne]; exact c3
                    repeat (first | with_reducible refine wT ?_ | with_reducible refine wg1 rfl ?_ | with_reducible refine wpT ?_ | with_reducible refine wpF ?_ | with_reducible refine wpv ?_ | with_reducible refine wsm ?_ | with_reducible refine wx0 ?_ | with_reducible refine wx1 ?_ | with_reducible refine wbd (by assumption) ?_ | (with_reducible refine wbd (eP _) ?_) | (rw [← hm]) | (with_reducible refine wsub1 hs1 (by omega) ?_) | with_reducible refine wadd1 (by omega) ?_ | with_reducible refine wrem2 ?_ | with_reducible refine wshr (by omega) ?_ | with_reducible refine wlssT (by omega) ?_ | with_reducible refine weqlT (by omega) ?_ | with_reducible refine weqlF (by omega) ?_ | dsimp only)
                    exact next2 _ _ (Nat.lt_succ_self m2) ⟨k + 1, true, true, false, rfl, by omega, by rw [any_succ, ← hL, eLt]; rfl, by rw [any_succ, ← hR, eRt]; rfl, by rw [any_succ, ← hD, eDf]; rfl⟩
              · have eRf : fR G k = false := by unfold fR; rw [hin, Bool.true_and, beq_eq_false_iff_ne]; exact c2
                cases D with
                | true =>
                  repeat (first | with_reducible refine wT ?_ | with_reducible refine wg1 rfl ?_ | with_reducible refine wg0 rfl ?_ | with_reducible refine wgu ?_ | with_reducible refine wpT ?_ | with_reducible refine wpF ?_ | with_reducible refine wpv ?_ | with_reducible refine wsm ?_ | with_reducible refine wx0 ?_ | with_reducible refine wx1 ?_ | with_reducible refine wbd (by assumption) ?_ | (with_reducible refine wbd (eP _) ?_) | (rw [← hm]) | with_reducible refine wadd1 (by omega) ?_ | with_reducible refine wrem2 ?_ | with_reducible refine wshr (by omega) ?_ | with_reducible refine wlssT (by omega) ?_ | with_reducible refine weqlT (by omega) ?_ | with_reducible refine weqlF (by omega) ?_ | dsimp only)
                  exact next2 _ _ (Nat.lt_succ_self m2) ⟨k + 1, true, false, true, rfl, by omega, by rw [any_succ, ← hL, eLt]; rfl, by rw [any_succ, ← hR, eRf]; rfl, by rw [any_succ, ← hD]; rfl⟩
                | false =>
                  by_cases c3 : rowT k + 1 = s
                  · have eDt : fD s G k = true := by unfold fD; rw [hin, Bool.true_and, beq_iff_eq]; exact c3
                    repeat (first | with_reducible refine wT ?_ | with_reducible refine wg1 rfl ?_ | with_reducible refine wpT ?_ | with_reducible refine wpF ?_ | with_reducible refine wpv ?_ | with_reducible refine wsm ?_ | with_reducible refine wx0 ?_ | with_reducible refine wx1 ?_ | with_reducible refine wbd (by assumption) ?_ | (with_reducible refine wbd (eP _) ?_) | (rw [← hm]) | (with_reducible refine wsub1 hs1 (by omega) ?_) | with_reducible refine wadd1 (by omega) ?_ | with_reducible refine wrem2 ?_ | with_reducible refine wshr (by omega) ?_ | with_reducible refine wlssT (by omega) ?_ | with_reducible refine weqlT (by omega) ?_ | with_reducible refine weqlF (by omega) ?_ | dsimp only)
                    exact next2 _ _ (Nat.lt_succ_self m2) ⟨k + 1, true, false, true, rfl, by omega, by rw [any_succ, ← hL, eLt]; rfl, by rw [any_succ, ← hR, eRf]; rfl, by rw [any_succ, ← hD, eDt]; rfl⟩
                  · have eDf : fD s G k = false := by unfold fD; rw [hin, Bool.true_and, beq_eq_false_iff_ne]; exact c3
                    repeat (first | with_reducible refine wT ?_ | with_reducible refine wg1 rfl ?_ | with_reducible refine wpT ?_ | with_reducible refine wpF ?_ | with_reducible refine wpv ?_ | with_reducible refine wsm ?_ | with_reducible refine wx0 ?_ | with_reducible refine wx1 ?_ | with_reducible refine wbd (by assumption) ?_ | (with_reducible refine wbd (eP _) ?_) | (rw [← hm]) | (with_reducible refine wsub1 hs1 (by omega) ?_) | with_reducible refine wadd1 (by omega) ?_ | with_reducible refine wrem2 ?_ | with_reducible refine wshr (by omega) ?_ | with_reducible refine wlssT (by omega) ?_ | with_reducible refine weqlT (by omega) ?_ | with_reducible refine weqlF (by omega) ?_ | dsimp only)
                    exact next2 _ _ (Nat.lt_succ_self m2) ⟨k + 1, true, false, false, rfl, by omega, by rw [any_succ, ← hL, eLt]; rfl, by rw [any_succ, ← hR, eRf]; rfl, by rw [any_succ, ← hD, eDf]; rfl⟩
          · have eLf : fL G k = false := by unfold fL; rw [hin, Bool.true_and, beq_eq_false_iff_ne]; exact c1
            cases R with
            | true =>
              cases D with
              | true =>
                repeat (first | with_reducible refine wT ?_ | with_reducible refine wg1 rfl ?_ | with_reducible refine wg0 rfl ?_ | with_reducible refine wgu ?_ | with_reducible refine wpT ?_ | with_reducible refine wpF ?_ | with_reducible refine wpv ?_ | with_reducible refine wsm ?_ | with_reducible refine wx0 ?_ | with_reducible refine wx1 ?_ | with_reducible refine wbd (by assumption) ?_ | (with_reducible refine wbd (eP _) ?_) | (rw [← hm]) | with_reducible refine wadd1 (by omega) ?_ | with_reducible refine wrem2 ?_ | with_reducible refine wshr (by omega) ?_ | with_reducible refine wlssT (by omega) ?_ | with_reducible refine weqlT (by omega) ?_ | with_reducible refine weqlF (by omega) ?_ | dsimp only)
                exact next2 _ _ (Nat.lt_succ_self m2) ⟨k + 1, false, true, true, rfl, by omega, by rw [any_succ, ← hL, eLf]; rfl, by rw [any_succ, ← hR]; rfl, by rw [any_succ, ← hD]; rfl⟩
              | false =>
                by_cases c3 : rowT k + 1 = s
                · have eDt : fD s G k = true := by unfold fD; rw [hin, Bool.true_and, beq_iff_eq]; exact c3
                  repeat (first | with_reducible refine wT ?_ | with_reducible refine wg1 rfl ?_ | with_reducible refine wg0 rfl ?_ | with_reducible refine wgu ?_ | with_reducible refine wpT ?_ | with_reducible refine wpF ?_ | with_reducible refine wpv ?_ | with_reducible refine wsm ?_ | with_reducible refine wx0 ?_ | with_reducible refine wx1 ?_ | with_reducible refine wbd (by assumption) ?_ | (with_reducible refine wbd (eP _) ?_) | (rw [← hm]) | (with_reducible refine wsub1 hs1 (by omega) ?_) | with_reducible refine wadd1 (by omega) ?_ | with_reducible refine wrem2 ?_ | with_reducible refine wshr (by omega) ?_ | with_reducible refine wlssT (by omega) ?_ | with_reducible refine weqlT (by omega) ?_ | with_reducible refine weqlF (by omega) ?_ | dsimp only)
                  exact next2 _ _ (Nat.lt_succ_self m2) ⟨k + 1, false, true, true, rfl, by omega, by rw [any_succ, ← hL, eLf]; rfl, by rw [any_succ, ← hR]; rfl, by rw [any_succ, ← hD, eDt]; rfl⟩
                · have eDf : fD s G k = false := by unfold fD; rw [hin, Bool.true_and, beq_eq_false_iff_ne]; exact c3
                  repeat (first | with_reducible refine wT ?_ | with_reducible refine wg1 rfl ?_ | with_reducible refine wg0 rfl ?_ | with_reducible refine wgu ?_ | with_reducible refine wpT ?_ | with_reducible refine wpF ?_ | with_reducible refine wpv ?_ | with_reducible refine wsm ?_ | with_reducible refine wx0 ?_ | with_reducible refine wx1 ?_ | with_reducible refine wbd (by assumption) ?_ | (with_reducible refine wbd (eP _) ?_) | (rw [← hm]) | (with_reducible refine wsub1 hs1 (by omega) ?_) | with_reducible refine wadd1 (by omega) ?_ | with_reducible refine wrem2 ?_ | with_reducible refine wshr (by omega) ?_ | with_reducible refine wlssT (by omega) ?_ | with_reducible refine weqlT (by omega) ?_ | with_reducible refine weqlF (by omega) ?_ | dsimp only)
                  exact next2 _ _ (Nat.lt_succ_self m2) ⟨k + 1, false, true, false, rfl, by omega, by rw [any_succ, ← hL, eLf]; rfl, by rw [any_succ, ← hR]; rfl, by rw [any_succ, ← hD, eDf]; rfl⟩
            | false =>
              by_cases c2 : plT k = rowT k
              · have eRt : fR G k = true := by unfold fR; rw [hin, Bool.true_and, beq_iff_eq]; exact c2
                cases D with
                | true =>
                  repeat (first | with_reducible refine wT ?_ | with_reducible refine wg1 rfl ?_ | with_reducible refine wg0 rfl ?_ | with_reducible refine wgu ?_ | with_reducible refine wpT ?_ | with_reducible refine wpF ?_ | with_reducible refine wpv ?_ | with_reducible refine wsm ?_ | with_reducible refine wx0 ?_ | with_reducible refine wx1 ?_ | with_reducible refine wbd (by assumption) ?_ | (with_reducible refine wbd (eP _) ?_) | (rw [← hm]) | with_reducible refine wadd1 (by omega) ?_ | with_reducible refine wrem2 ?_ | with_reducible refine wshr (by omega) ?_ | with_reducible refine wlssT (by omega) ?_ | with_reducible refine weqlT (by omega) ?_ | with_reducible refine weqlF (by omega) ?_ | dsimp only)
                  exact next2 _ _ (Nat.lt_succ_self m2) ⟨k + 1, false, true, true, rfl, by omega, by rw [any_succ, ← hL, eLf]; rfl, by rw [any_succ, ← hR, eRt]; rfl, by rw [any_succ, ← hD]; rfl⟩
                | false =>
                  by_cases c3 : rowT k + 1 = s
                  · have eDt : fD s G k = true := by unfold fD; rw [hin, Bool.true_and, beq_iff_eq]; exact c3
                    repeat (first | with_reducible refine wT ?_ | with_reducible refine wg1 rfl ?_ | with_reducible refine wpT ?_ | with_reducible refine wpF ?_ | with_reducible refine wpv ?_ | with_reducible refine wsm ?_ | with_reducible refine wx0 ?_ | with_reducible refine wx1 ?_ | with_reducible refine wbd (by assumption) ?_ | (with_reducible refine wbd (eP _) ?_) | (rw [← hm]) | (with_reducible refine wsub1 hs1 (by omega) ?_) | with_reducible refine wadd1 (by omega) ?_ | with_reducible refine wrem2 ?_ | with_reducible refine wshr (by omega) ?_ | with_reducible refine wlssT (by omega) ?_ | with_reducible refine weqlT (by omega) ?_ | with_reducible refine weqlF (by omega) ?_ | dsimp only)
                    exact next2 _ _ (Nat.lt_succ_self m2) ⟨k + 1, false, true, true, rfl, by omega, by rw [any_succ, ← hL, eLf]; rfl, by rw [any_succ, ← hR, eRt]; rfl, by rw [any_succ, ← hD, eDt]; rfl⟩
                  · have eDf : fD s G k = false := by unfold fD; rw [hin, Bool.true_and, beq_eq_false_iff_ne]; exact c3
                    repeat (first | with_reducible refine wT ?_ | with_reducible refine wg1 rfl ?_ | with_reducible refine wpT ?_ | with_reducible refine wpF ?_ | with_reducible refine wpv ?_ | with_reducible refine wsm ?_ | with_reducible refine wx0 ?_ | with_reducible refine wx1 ?_ | with_reducible refine wbd (by assumption) ?_ | (with_reducible refine wbd (eP _) ?_) | (rw [← hm]) | (with_reducible refine wsub1 hs1 (by omega) ?_) | with_reducible refine wadd1 (by omega) ?_ | with_reducible refine wrem2 ?_ | with_reducible refine wshr (by omega) ?_ | with_reducible refine wlssT (by omega) ?_ | with_reducible refine weqlT (by omega) ?_ | with_reducible refine weqlF (by omega) ?_ | dsimp only)
                    exact next2 _ _ (Nat.lt_succ_self m2) ⟨k + 1, false, true, false, rfl, by omega, by rw [any_succ, ← hL, eLf]; rfl, by rw [any_succ, ← hR, eRt]; rfl, by rw [any_succ, ← hD, eDf]; rfl⟩
              · have eRf : fR G k = false := by unfold fR; rw [hin, Bool.true_and, beq_eq_false_iff_ne]; exact c2
                cases D with
                | true =>
                  repeat (first | with_reducible refine wT ?_ | with_reducible refine wg1 rfl ?_ | with_reducible refine wg0 rfl ?_ | with_reducible refine wgu ?_ | with_reducible refine wpT ?_ | with_reducible refine wpF ?_ | with_reducible refine wpv ?_ | with_reducible refine wsm ?_ | with_reducible refine wx0 ?_ | with_reducible refine wx1 ?_ | with_reducible refine wbd (by assumption) ?_ | (with_reducible refine wbd (eP _) ?_) | (rw [← hm]) | with_reducible refine wadd1 (by omega) ?_ | with_reducible refine wrem2 ?_ | with_reducible refine wshr (by omega) ?_ | with_reducible refine wlssT (by omega) ?_ | with_reducible refine weqlT (by omega) ?_ | with_reducible refine weqlF (by omega) ?_ | dsimp only)
                  exact next2 _ _ (Nat.lt_succ_self m2) ⟨k + 1, false, false, true, rfl, by omega, by rw [any_succ, ← hL, eLf]; rfl, by rw [any_succ, ← hR, eRf]; rfl, by rw [any_succ, ← hD]; rfl⟩
                | false =>
                  by_cases c3 : rowT k + 1 = s
                  · have eDt : fD s G k = true := by unfold fD; rw [hin, Bool.true_and, beq_iff_eq]; exact c3
                    repeat (first | with_reducible refine wT ?_ | with_reducible refine wg1 rfl ?_ | with_reducible refine wpT ?_ | with_reducible refine wpF ?_ | with_reducible refine wpv ?_ | with_reducible refine wsm ?_ | with_reducible refine wx0 ?_ | with_reducible refine wx1 ?_ | with_reducible refine wbd (by assumption) ?_ | (with_reducible refine wbd (eP _) ?_) | (rw [← hm]) | (with_reducible refine wsub1 hs1 (by omega) ?_) | with_reducible refine wadd1 (by omega) ?_ | with_reducible refine wrem2 ?_ | with_reducible refine wshr (by omega) ?_ | with_reducible refine wlssT (by omega) ?_ | with_reducible refine weqlT (by omega) ?_ | with_reducible refine weqlF (by omega) ?_ | dsimp only)
                    exact next2 _ _ (Nat.lt_succ_self m2) ⟨k + 1, false, false, true, rfl, by omega, by rw [any_succ, ← hL, eLf]; rfl, by rw [any_succ, ← hR, eRf]; rfl, by rw [any_succ, ← hD, eDt]; rfl⟩
                  · have eDf : fD s G k = false := by unfold fD; rw [hin, Bool.true_and, beq_eq_false_iff_ne]; exact c3
                    repeat (first | with_reducible refine wT ?_ | with_reducible refine wg1 rfl ?_ | with_reducible refine wpT ?_ | with_reducible refine wpF ?_ | with_reducible refine wpv ?_ | with_reducible refine wsm ?_ | with_reducible refine wx0 ?_ | with_reducible refine wx1 ?_ | with_reducible refine wbd (by assumption) ?_ | (with_reducible refine wbd (eP _) ?_) | (rw [← hm]) | (with_reducible refine wsub1 hs1 (by omega) ?_) | with_reducible refine wadd1 (by omega) ?_ | with_reducible refine wrem2 ?_ | with_reducible refine wshr (by omega) ?_ | with_reducible refine wlssT (by omega) ?_ | with_reducible refine weqlT (by omega) ?_ | with_reducible refine weqlF (by omega) ?_ | dsimp only)
                    exact next2 _ _ (Nat.lt_succ_self m2) ⟨k + 1, false, false, false, rfl, by omega, by rw [any_succ, ← hL, eLf]; rfl, by rw [any_succ, ← hR, eRf]; rfl, by rw [any_succ, ← hD, eDf]; rfl⟩
      · have hin : G.testBit k = false := by
          cases e : G.testBit k with
          | false => rfl
          | true => exact (hm1 (hbi.2 e)).elim
        cases L with
        | true =>
          cases R with
          | true =>
            cases D with
            | true =>
              repeat (first | with_reducible refine wT ?_ | with_reducible refine wg0 rfl ?_ | with_reducible refine wgu ?_ | with_reducible refine wpT ?_ | with_reducible refine wsm ?_ | with_reducible refine wx0 ?_ | with_reducible refine wx1 ?_ | with_reducible refine wbd (by assumption) ?_ | (with_reducible refine wbd (eP _) ?_) | (rw [← hm]) | with_reducible refine wadd1 (by omega) ?_ | with_reducible refine wrem2 ?_ | with_reducible refine wshr (by omega) ?_ | with_reducible refine wlssT (by omega) ?_ | with_reducible refine weqlF (by omega) ?_ | dsimp only)
              exact next2 _ _ (Nat.lt_succ_self m2) ⟨k + 1, true, true, true, rfl, by omega, by rw [any_succ, ← hL]; rfl, by rw [any_succ, ← hR]; rfl, by rw [any_succ, ← hD]; rfl⟩
            | false =>
              have eDf : fD s G k = false := by unfold fD; rw [hin]; rfl
              repeat (first | with_reducible refine wT ?_ | with_reducible refine wg1 rfl ?_ | with_reducible refine wg0 rfl ?_ | with_reducible refine wgu ?_ | with_reducible refine wpT ?_ | with_reducible refine wpF ?_ | with_reducible refine wpv ?_ | with_reducible refine wsm ?_ | with_reducible refine wx0 ?_ | with_reducible refine wx1 ?_ | with_reducible refine wbd (by assumption) ?_ | (with_reducible refine wbd (eP _) ?_) | (rw [← hm]) | with_reducible refine wadd1 (by omega) ?_ | with_reducible refine wrem2 ?_ | with_reducible refine wshr (by omega) ?_ | with_reducible refine wlssT (by omega) ?_ | with_reducible refine weqlF (by omega) ?_ | dsimp only)
              exact next2 _ _ (Nat.lt_succ_self m2) ⟨k + 1, true, true, false, rfl, by omega, by rw [any_succ, ← hL]; rfl, by rw [any_succ, ← hR]; rfl, by rw [any_succ, ← hD, eDf]; rfl⟩
          | false =>
            have eRf : fR G k = false := by unfold fR; rw [hin]; rfl
            cases D with
            | true =>
              repeat (first | with_reducible refine wT ?_ | with_reducible refine wg1 rfl ?_ | with_reducible refine wg0 rfl ?_ | with_reducible refine wgu ?_ | with_reducible refine wpT ?_ | with_reducible refine wpF ?_ | with_reducible refine wpv ?_ | with_reducible refine wsm ?_ | with_reducible refine wx0 ?_ | with_reducible refine wx1 ?_ | with_reducible refine wbd (by assumption) ?_ | (with_reducible refine wbd (eP _) ?_) | (rw [← hm]) | with_reducible refine wadd1 (by omega) ?_ | with_reducible refine wrem2 ?_ | with_reducible refine wshr (by omega) ?_ | with_reducible refine wlssT (by omega) ?_ | with_reducible refine weqlF (by omega) ?_ | dsimp only)
              exact next2 _ _ (Nat.lt_succ_self m2) ⟨k + 1, true, false, true, rfl, by omega, by rw [any_succ, ← hL]; rfl, by rw [any_succ, ← hR, eRf]; rfl, by rw [any_succ, ← hD]; rfl⟩
            | false =>
              have eDf : fD s G k = false := by unfold fD; rw [hin]; rfl
              repeat (first | with_reducible refine wT ?_ | with_reducible refine wg1 rfl ?_ | with_reducible refine wg0 rfl ?_ | with_reducible refine wgu ?_ | with_reducible refine wpT ?_ | with_reducible refine wpF ?_ | with_reducible refine wpv ?_ | with_reducible refine wsm ?_ | with_reducible refine wx0 ?_ | with_reducible refine wx1 ?_ | with_reducible refine wbd (by assumption) ?_ | (with_reducible refine wbd (eP _) ?_) | (rw [← hm]) | with_reducible refine wadd1 (by omega) ?_ | with_reducible refine wrem2 ?_ | with_reducible refine wshr (by omega) ?_ | with_reducible refine wlssT (by omega) ?_ | with_reducible refine weqlF (by omega) ?_ | dsimp only)
              exact next2 _ _ (Nat.lt_succ_self m2) ⟨k + 1, true, false, false, rfl, by omega, by rw [any_succ, ← hL]; rfl, by rw [any_succ, ← hR, eRf]; rfl, by rw [any_succ, ← hD, eDf]; rfl⟩
        | false =>
          have eLf : fL G k = false := by unfold fL; rw [hin]; rfl
          cases R with
          | true =>
            cases D with
            | true =>
              repeat (first | with_reducible refine wT ?_ | with_reducible refine wg1 rfl ?_ | with_reducible refine wg0 rfl ?_ | with_reducible refine wgu ?_ | with_reducible refine wpT ?_ | with_reducible refine wpF ?_ | with_reducible refine wpv ?_ | with_reducible refine wsm ?_ | with_reducible refine wx0 ?_ | with_reducible refine wx1 ?_ | with_reducible refine wbd (by assumption) ?_ | (with_reducible refine wbd (eP _) ?_) | (rw [← hm]) | with_reducible refine wadd1 (by omega) ?_ | with_reducible refine wrem2 ?_ | with_reducible refine wshr (by omega) ?_ | with_reducible refine wlssT (by omega) ?_ | with_reducible refine weqlF (by omega) ?_ | dsimp only)
              exact next2 _ _ (Nat.lt_succ_self m2) ⟨k + 1, false, true, true, rfl, by omega, by rw [any_succ, ← hL, eLf]; rfl, by rw [any_succ, ← hR]; rfl, by rw [any_succ, ← hD]; rfl⟩
            | false =>
              have eDf : fD s G k = false := by unfold fD; rw [hin]; rfl
              repeat (first | with_reducible refine wT ?_ | with_reducible refine wg1 rfl ?_ | with_reducible refine wg0 rfl ?_ | with_reducible refine wgu ?_ | with_reducible refine wpT ?_ | with_reducible refine wpF ?_ | with_reducible refine wpv ?_ | with_reducible refine wsm ?_ | with_reducible refine wx0 ?_ | with_reducible refine wx1 ?_ | with_reducible refine wbd (by assumption) ?_ | (with_reducible refine wbd (eP _) ?_) | (rw [← hm]) | with_reducible refine wadd1 (by omega) ?_ | with_reducible refine wrem2 ?_ | with_reducible refine wshr (by omega) ?_ | with_reducible refine wlssT (by omega) ?_ | with_reducible refine weqlF (by omega) ?_ | dsimp only)
              exact next2 _ _ (Nat.lt_succ_self m2) ⟨k + 1, false, true, false, rfl, by omega, by rw [any_succ, ← hL, eLf]; rfl, by rw [any_succ, ← hR]; rfl, by rw [any_succ, ← hD, eDf]; rfl⟩
          | false =>
            have eRf : fR G k = false := by unfold fR; rw [hin]; rfl
            cases D with
            | true =>
              repeat (first | with_reducible refine wT ?_ | with_reducible refine wg1 rfl ?_ | with_reducible refine wg0 rfl ?_ | with_reducible refine wgu ?_ | with_reducible refine wpT ?_ | with_reducible refine wpF ?_ | with_reducible refine wpv ?_ | with_reducible refine wsm ?_ | with_reducible refine wx0 ?_ | with_reducible refine wx1 ?_ | with_reducible refine wbd (by assumption) ?_ | (with_reducible refine wbd (eP _) ?_) | (rw [← hm]) | with_reducible refine wadd1 (by omega) ?_ | with_reducible refine wrem2 ?_ | with_reducible refine wshr (by omega) ?_ | with_reducible refine wlssT (by omega) ?_ | with_reducible refine weqlF (by omega) ?_ | dsimp only)
              exact next2 _ _ (Nat.lt_succ_self m2) ⟨k + 1, false, false, true, rfl, by omega, by rw [any_succ, ← hL, eLf]; rfl, by rw [any_succ, ← hR, eRf]; rfl, by rw [any_succ, ← hD]; rfl⟩
            | false =>
              have eDf : fD s G k = false := by unfold fD; rw [hin]; rfl
              repeat (first | with_reducible refine wT ?_ | with_reducible refine wg1 rfl ?_ | with_reducible refine wg0 rfl ?_ | with_reducible refine wpF ?_ | with_reducible refine wpv ?_ | with_reducible refine wsm ?_ | with_reducible refine wx0 ?_ | with_reducible refine wx1 ?_ | with_reducible refine wbd (by assumption) ?_ | (with_reducible refine wbd (eP _) ?_) | (rw [← hm]) | with_reducible refine wadd1 (by omega) ?_ | with_reducible refine wrem2 ?_ | with_reducible refine wshr (by omega) ?_ | with_reducible refine wlssT (by omega) ?_ | with_reducible refine weqlF (by omega) ?_ | dsimp only)
              exact next2 _ _ (Nat.lt_succ_self m2) ⟨k + 1, false, false, false, rfl, by omega, by rw [any_succ, ← hL, eLf]; rfl, by rw [any_succ, ← hR, eRf]; rfl, by rw [any_succ, ← hD, eDf]; rfl⟩
  obtain ⟨_, h', e, rfl, k⟩ := this
  exact ⟨h', e, k⟩

end Go.Proofs.YtlefknibddkjpaaDoor

/- The model's chapter 7, continued: how many triangles are won. -/
set_option maxRecDepth 20000
namespace Go.Proofs.YtlefknibddkjpaaDoor
open Go Go.Ip G

theorem listFrom_pop (S : Nat) : ∀ (m k : Nat), (listFrom S m k).length = (List.range' k m).countP S.testBit
  | 0, _ => rfl
  | m + 1, k => by
    rw [listFrom, List.range'_succ, List.countP_cons]
    have hb := bit_iff S k
    by_cases h : S >>> k % 2 = 1
    · rw [if_pos h, List.length_cons, listFrom_pop S m (k + 1), if_pos (hb.1 h)]
    · rw [if_neg h, listFrom_pop S m (k + 1), if_neg (fun e => h (hb.2 e))]; omega
theorem listT_length (S : Nat) : (listT S).length = popT S := by
  unfold listT popT
  rw [listFrom_pop, List.range_eq_range']

variable (g : Nat → PV) (lf n : Nat)

theorem l6SizeT_calls {S : Nat} (hS : S < 2 ^ 10) (N : Nat) (hN : 2 ≤ N) (hlf : 20 < lf) (h : PHeap) :
    ∃ h', CL g lf N fn_spec_l6Size [.int .i64 (S : Int)] h = some (.int .i64 (popT S : Int), h') ∧ Keep h.length h h' := by
  obtain ⟨n, rfl⟩ : ∃ n, N = n + 1 := ⟨N - 1, by omega⟩
  obtain ⟨q, h1, e1, o1, k1⟩ := l2ListT_calls g lf hS n (by omega) (by omega) (h := h)
  have hlen := o1.int.len'
  rw [listT_length] at hlen
  have : W (CL g lf (n + 1) fn_spec_l6Size [.int .i64 (S : Int)] h) fun v h' => v = .int .i64 (popT S : Int) ∧ Keep h.length h h' := by
    rw [spec_l6Size.call_eq]
    unfold spec_l6Size.main
    simp only [env_C, env_len]
    repeat (first | with_reducible refine wrI ?_ | with_reducible refine wbd (by assumption) ?_ | dsimp only)
    exact W.ret ⟨rfl, k1⟩
  obtain ⟨_, h', e, rfl, k⟩ := this
  exact ⟨h', e, k⟩

set_option maxHeartbeats 1000000 in
theorem specTriangleWins_calls (N : Nat) (hN : 6 ≤ N) (hlf : 2000 < lf) (h : PHeap) (side f : Int) :
    ∃ h', CL g lf N fn_spec_TriangleWins [.int .i64 side, .int .i64 f] h = some (.int .i64 (winsL side f), h') ∧ Keep h.length h h' := by
  obtain ⟨n, rfl⟩ : ∃ n, N = n + 1 := ⟨N - 1, by omega⟩
  have : W (CL g lf (n + 1) fn_spec_TriangleWins [.int .i64 side, .int .i64 f] h) fun v h' => v = .int .i64 (winsL side f) ∧ Keep h.length h h' := by
    have e1 := l1In_N g lf n (by omega) h side 1 4
    unfold winsL
    rw [spec_TriangleWins.call_eq]
    unfold spec_TriangleWins.main
    simp only [env_C, env_lf, env_pick, env_un]
    by_cases hs : 1 ≤ side ∧ side ≤ 4
    case neg =>
      rw [decide_eq_false hs] at e1 ⊢
      rw [Bool.false_and, if_neg (by decide)]
      repeat (first | with_reducible refine wT ?_ | with_reducible refine wg0 rfl ?_ | with_reducible refine wpT ?_ | with_reducible refine wnF ?_ | with_reducible refine wsm ?_ | with_reducible refine wrI ?_ | with_reducible refine wbd (by assumption) ?_ | dsimp only)
      exact W.ret ⟨rfl, Keep.refl _ _⟩
    rw [decide_eq_true hs] at e1 ⊢
    obtain ⟨s, rfl⟩ := Int.eq_ofNat_of_zero_le (show 0 ≤ side by omega)
    have s1 : 1 ≤ s := by omega
    have s4 : s ≤ 4 := by omega
    have hc10 := cellsT_le s4
    rw [Bool.true_and, Int.toNat_natCast]
    have eC := fun hh => l7Cells_N g lf (s := s) (by omega) n (by omega) hh
    have e2 := l1In_N g lf n (by omega) h f 0 (cellsT s : Int)
    by_cases hf : 0 ≤ f ∧ f ≤ (cellsT s : Int)
    case neg =>
      rw [decide_eq_false hf] at e2 ⊢
      rw [if_neg (by decide)]
      repeat (first | with_reducible refine wT ?_ | with_reducible refine wg1 rfl ?_ | with_reducible refine wpF ?_ | with_reducible refine wnT ?_ | with_reducible refine wnF ?_ | with_reducible refine wpv ?_ | with_reducible refine wsm ?_ | with_reducible refine wrI ?_ | with_reducible refine wbd (by assumption) ?_ | (with_reducible refine wbd (eC _) ?_) | dsimp only)
      exact W.ret ⟨rfl, Keep.refl _ _⟩
    rw [decide_eq_true hf] at e2 ⊢
    rw [if_pos rfl]
    obtain ⟨F, rfl⟩ := Int.eq_ofNat_of_zero_le hf.1
    rw [Int.toNat_natCast]
    have hwd : winsT s F = (List.range (2 ^ cellsT s)).countP fun A => popT A == F && lastT s A := rfl
    rw [hwd]
    have hcs : ∀ A, A < 2 ^ cellsT s → Tri (s : Int) (fillT (cellsT s) A) s A := fun A hA => Tri.fill s1 s4 hA
    obtain ⟨T, hT⟩ : ∃ T, T = cellsT s := ⟨_, rfl⟩
    rw [← hT] at eC hc10 hcs e2 ⊢
    have hT30 : T ≤ 30 := by omega
    obtain ⟨M, hM⟩ : ∃ M, M = 2 ^ T := ⟨_, rfl⟩
    have hM' : 1 <<< T = M := by rw [Nat.one_shiftLeft, hM]
    have hM10 : M ≤ 2 ^ 10 := by rw [hM]; exact Nat.pow_le_pow_right (by decide) hc10
    rw [← hM] at hcs ⊢
    repeat (first | with_reducible refine wF ?_ | with_reducible refine wg1 rfl ?_ | with_reducible refine wpF ?_ | with_reducible refine wnT ?_ | with_reducible refine wpv ?_ | with_reducible refine wsm ?_ | with_reducible refine wbd (by assumption) ?_ | (with_reducible refine wbd (eC _) ?_) | dsimp only)
    refine loopW (fun m st => ∃ (A c : Nat) (h2 : PHeap), st = spec_TriangleWins.st0 (.int .i64 (s : Int)) (.int .i64 (F : Int)) (.int .i64 (c : Int)) (.int .i64 (A : Int)) h2 ∧ A + m = M ∧ c ≤ A ∧ c = ((List.range A).countP fun A => popT A == F && lastT s A) ∧ Keep h.length h h2) ?_ lf M _ (by omega) ⟨0, 0, h, rfl, by omega, by omega, rfl, Keep.refl _ _⟩
    rintro n1 m st ⟨A, c, h2, rfl, hAm, hcA, hc, k2⟩ next
    rw [spec_TriangleWins.body0_eq]
    unfold spec_TriangleWins.body0
    simp only [env_C, env_lf, env_buildSlice, env_bin]
    cases m with
    | zero =>
      have hAM : A = M := by omega
      repeat (first | with_reducible refine wF ?_ | with_reducible refine wrI ?_ | (with_reducible refine wbd (eC _) ?_) | (with_reducible refine wshl hT30 ?_) | (rw [hM']) | with_reducible refine wlssF (by omega) ?_ | rw [kLoop_exit] | rw [spec_TriangleWins.after0_se0_0_1_5_6_23] | dsimp only)
      rw [← hAM, ← hc]
      exact W.ret ⟨rfl, k2⟩
    | succ m =>
    have hA : A < M := by omega
    have hA10 : A < 2 ^ 10 := by omega
    obtain ⟨h3, e3, k3⟩ := l6SizeT_calls g lf hA10 n (by omega) (by omega) h2
    have kk := k2.trans (k3.mono k2.1)
    have hsucc : ((List.range (A + 1)).countP fun A => popT A == F && lastT s A) = c + if (popT A == F && lastT s A) = true then 1 else 0 := by
      rw [List.range_succ, List.countP_append, ← hc]; simp
    by_cases hp : popT A = F
    case neg =>
      have hne : ¬ (popT A : Int) = (F : Int) := by omega
      have hno : (popT A == F && lastT s A) = false := by rw [beq_eq_false_iff_ne.2 hp]; rfl
      rw [hno] at hsucc
      repeat (first | with_reducible refine wT ?_ | with_reducible refine wbd (by assumption) ?_ | (with_reducible refine wbd (eC _) ?_) | (with_reducible refine wshl hT30 ?_) | (rw [hM']) | with_reducible refine wadd1 (by omega) ?_ | with_reducible refine wlssT (by omega) ?_ | with_reducible refine wneqT (by omega) ?_ | dsimp only)
      exact next _ _ (Nat.lt_succ_self m) ⟨A + 1, c, h3, rfl, by omega, by omega, by rw [hsucc]; rfl, kk⟩
    have hpe : (popT A : Int) = (F : Int) := by omega
    repeat (first | with_reducible refine wT ?_ | with_reducible refine wF ?_ | with_reducible refine wbd (by assumption) ?_ | (with_reducible refine wbd (eC _) ?_) | (with_reducible refine wshl hT30 ?_) | (rw [hM']) | with_reducible refine wlssT (by omega) ?_ | with_reducible refine wneqF (by omega) ?_ | dsimp only)
    refine wempty fun q h4 o4 k4 => ?_
    have kk4 : Keep h3.length h3 h3 := Keep.refl _ _
    refine loopW (fun m2 st => ∃ (k : Nat) (q : PV) (h5 : PHeap), st = spec_TriangleWins.st1 (.int .i64 (s : Int)) (.int .i64 (F : Int)) (.int .i64 (c : Int)) (.int .i64 (A : Int)) q (.int .i64 (k : Int)) h5 ∧ k + m2 = T ∧ OwnSl h3.length h5 q ((fillT T A).take k) ∧ Keep h3.length h3 h5) ?_ lf T _ (by omega) ⟨0, q, h4, rfl, by omega, o4, k4⟩
    rintro n2 m2 st ⟨k, q5, h5, rfl, hkm, o5, k5⟩ next2
    rw [spec_TriangleWins.body1_eq]
    unfold spec_TriangleWins.body1
    simp only [env_C, env_buildSlice, env_bin, env_append]
    cases m2 with
    | succ m2 =>
      have hk : k < T := by omega
      obtain ⟨m1, hm⟩ : ∃ m1, m1 = A >>> k % 2 := ⟨_, rfl⟩
      have hm2 : m1 < 2 := by rw [hm]; exact Nat.mod_lt _ (by decide)
      have hbi := bit_iff A k
      rw [← hm] at hbi
      have hv : (2 : Int) - (m1 : Int) = if A.testBit k = true then 1 else 2 := by
        by_cases hm1 : m1 = 1
        · rw [if_pos (hbi.1 hm1)]; omega
        · rw [if_neg (fun e => hm1 (hbi.2 e))]; omega
      have hsb : -4611686018427387904 ≤ (2 : Int) - (m1 : Int) ∧ (2 : Int) - (m1 : Int) ≤ 4611686018427387904 := by omega
      have hz : ((fillT T A).take k).length + 1 ≤ 2 ^ 36 := by rw [List.length_take, fillT_length]; omega
      repeat (first | with_reducible refine wT ?_ | (with_reducible refine wbd (eC _) ?_) | (rw [← hm]) | (with_reducible refine wsub hsb ?_) | with_reducible refine wrem2 ?_ | with_reducible refine wshr (by omega) ?_ | with_reducible refine wlssT (by omega) ?_ | dsimp only)
      repeat (first | (refine wap o5 k5.1 hz fun p' h6 o6 k6 => ?_) | with_reducible refine wadd1 (by omega) ?_ | dsimp only)
      refine next2 _ _ (Nat.lt_succ_self m2) ⟨k + 1, p', h6, rfl, by omega, ?_, k5.trans k6⟩
      rw [fillT_take hk, ← hv]; exact o6
    | zero =>
      have hkT : k = T := by omega
      rw [hkT, List.take_of_length_le (by rw [fillT_length]; exact Nat.le_refl _)] at o5
      have hl5 : (fillT T A).length ≤ 2 ^ 35 := by rw [fillT_length]; omega
      have hf5 : (fillT T A).length < lf := by rw [fillT_length]; omega
      obtain ⟨h6, e6, k6⟩ := specLastCell_calls g lf n (by omega) (s : Int) o5.int hl5 hf5 (by omega)
      rw [tri_last (hcs A hA)] at e6
      have kk6 := kk.trans ((k5.trans (k6.mono k5.1)).mono kk.1)
      cases hlast : lastT s A with
      | true =>
        rw [hlast] at e6
        have hyes : (popT A == F && lastT s A) = true := by rw [hlast, beq_iff_eq.2 hp]; rfl
        rw [if_pos hyes] at hsucc
        have e6 : CL g lf n fn_spec_LastCell [.int .i64 (s : Int), q5] h5 = some (.int .i64 1, h6) := e6
        repeat (first | with_reducible refine wT ?_ | with_reducible refine wF ?_ | with_reducible refine wbd (by assumption) ?_ | (with_reducible refine wbd (eC _) ?_) | with_reducible refine wadd1 (by omega) ?_ | with_reducible refine wlssF (by omega) ?_ | with_reducible refine weqlT (by omega) ?_ | rw [kLoop_exit] | rw [spec_TriangleWins.after1_se2_0_1_5_6_7_8_34] | dsimp only | simp only [env_C, env_g, env_lf, env_pick, env_alloc, env_box, env_build, env_buildSlice, env_load, env_store, env_ptr, env_bin, env_un, env_conv, env_make, env_slice, env_fieldAddr, env_field, env_indexAddr, env_index, env_extract, env_len, env_append, env_max, env_min, env_makeMap, env_lookup, env_update])
        exact next _ _ (Nat.lt_succ_self m) ⟨A + 1, c + 1, h6, rfl, by omega, by omega, hsucc.symm, kk6⟩
      | false =>
        rw [hlast] at e6
        have hno : (popT A == F && lastT s A) = false := by rw [hlast, Bool.and_false]
        rw [hno] at hsucc
        have e6 : CL g lf n fn_spec_LastCell [.int .i64 (s : Int), q5] h5 = some (.int .i64 2, h6) := e6
        repeat (first | with_reducible refine wF ?_ | with_reducible refine wbd (by assumption) ?_ | (with_reducible refine wbd (eC _) ?_) | with_reducible refine wadd1 (by omega) ?_ | with_reducible refine wlssF (by omega) ?_ | with_reducible refine weqlF (by omega) ?_ | rw [kLoop_exit] | rw [spec_TriangleWins.after1_se2_0_1_5_6_7_8_34] | dsimp only | simp only [env_C, env_g, env_lf, env_pick, env_alloc, env_box, env_build, env_buildSlice, env_load, env_store, env_ptr, env_bin, env_un, env_conv, env_make, env_slice, env_fieldAddr, env_field, env_indexAddr, env_index, env_extract, env_len, env_append, env_max, env_min, env_makeMap, env_lookup, env_update])
        exact next _ _ (Nat.lt_succ_self m) ⟨A + 1, c, h6, rfl, by omega, by omega, by rw [hsucc]; rfl, kk6⟩
  obtain ⟨_, h', e, rfl, k⟩ := this
  exact ⟨h', e, k⟩

end Go.Proofs.YtlefknibddkjpaaDoor

/- The draws of chapter 7. -/
set_option maxRecDepth 20000
namespace Go.Proofs.YtlefknibddkjpaaDoor
open Go Go.Ip G

variable (g : Nat → PV) (lf n : Nat)

theorem bnd_app {zs : List Int} {v : Int} (h : ∀ x ∈ zs, 0 ≤ x ∧ x ≤ 3) (hv : 0 ≤ v ∧ v ≤ 3) : ∀ x ∈ zs ++ [v], 0 ≤ x ∧ x ≤ 3 := fun x hx => by
  rcases List.mem_append.1 hx with h1 | h1
  · exact h x h1
  · rw [List.mem_singleton.1 h1]; exact hv
theorem bnd_set {zs : List Int} {v : Int} {i : Nat} (h : ∀ x ∈ zs, 0 ≤ x ∧ x ≤ 3) (hv : 0 ≤ v ∧ v ≤ 3) : ∀ x ∈ zs.set i v, 0 ≤ x ∧ x ≤ 3 := fun x hx => by
  rcases List.mem_or_eq_of_mem_set hx with h1 | h1
  · exact h x h1
  · rw [h1]; exact hv
theorem lit_bnd {J : Nat} (h : J < ([0, 3] : List Int).length) : 0 ≤ ([0, 3] : List Int)[J] ∧ ([0, 3] : List Int)[J] ≤ 3 := by
  have := List.getElem_mem h
  generalize ([0, 3] : List Int)[J] = x at this
  simp at this
  omega

theorem triangle_W {h : PHeap} {id m : Nat} (N : Nat) (hN : 4 ≤ N) (k : Int) (hr : Rd h id m) (hm : m ≤ 500000) (hk0 : 1 ≤ k) (hk : k ≤ 1000) (hlf : 20 < lf) :
    W (CL g lf N fn_spec_l20Triangle [.ptr id 0, .int .i64 k] h) fun v h' => ∃ (s : Int) (q : PV) (xs : List Int), v = .tup [.int .i64 s, q] ∧ Keep id h h' ∧ OwnSl (id + 1) h' q xs ∧ xs.length ≤ 11 ∧ (∀ x ∈ xs, 0 ≤ x ∧ x ≤ 3) ∧ 1 ≤ s ∧ s ≤ 5 ∧ Rd h' id (m + 20) := by
  obtain ⟨n, rfl⟩ : ∃ n, N = n + 1 := ⟨N - 1, by omega⟩
  have hidl : id < h.length := by
    obtain ⟨_, _, _, e, _⟩ := hr
    exact (List.getElem?_eq_some_iff.1 e).1
  obtain ⟨v1, h1, e1, r1, ok1, a1, a2, _⟩ := pick_calls g lf n (by omega) 4 hr (by omega) (by omega)
  have a2' := a2 (by omega)
  obtain ⟨V, rfl⟩ := Int.eq_ofNat_of_zero_le a1
  have hside : (1 : Int) + (V : Int) = ((V + 1 : Nat) : Int) := by omega
  obtain ⟨s, hs⟩ : ∃ s, s = V + 1 := ⟨_, rfl⟩
  rw [← hs] at hside
  have s1 : 1 ≤ s := by omega
  have s4 : s ≤ 4 := by omega
  have hc10 := cellsT_le s4
  have hc1 : 0 < cellsT s := by
    have : s = 1 ∨ s = 2 ∨ s = 3 ∨ s = 4 := by omega
    rcases this with rfl | rfl | rfl | rfl <;> decide
  have eC := fun hh => l7Cells_N g lf (s := s) (by omega) n (by omega) hh
  obtain ⟨T, hT⟩ : ∃ T, T = cellsT s := ⟨_, rfl⟩
  rw [← hT] at eC hc10 hc1
  have kk1 := ok1.keep
  have hl1 := ok1.1
  have hw1 : -4611686018427387904 ≤ (1 : Int) + (V : Int) ∧ (1 : Int) + (V : Int) ≤ 4611686018427387904 := by omega
  rw [spec_l20Triangle.call_eq]
  unfold spec_l20Triangle.main
  simp only [env_C, env_lf, env_buildSlice, env_bin]
  repeat (first | with_reducible refine wbd (by assumption) ?_ | (with_reducible refine wadd hw1 ?_) | (rw [hside]) | dsimp only)
  refine wempty fun q h2 o2 k2 => ?_
  refine loopW (fun m' st => ∃ (i : Nat) (q : PV) (zs : List Int) (h3 : PHeap), st = spec_l20Triangle.st0 (.ptr id 0) (.int .i64 k) (.int .i64 (s : Int)) q (.int .i64 (i : Int)) h3 ∧ i + m' = T ∧ zs.length = i ∧ (∀ x ∈ zs, 0 ≤ x ∧ x ≤ 3) ∧ OwnSl (id + 1) h3 q zs ∧ Keep id h h3 ∧ Rd h3 id (m + 1 + i)) ?_ lf T _ (by omega) ⟨0, q, [], h2, rfl, by omega, rfl, (fun _ h => nomatch h), o2.mono (by omega), kk1.trans (k2.mono (by omega)), r1.keep k2 (by omega)⟩
  rintro n1 m' st ⟨i, q, zs, h3, rfl, him, hz, hb, o3, k3, r3⟩ next
  have hl3 := k3.1
  have hid3 : id < h3.length := by
    obtain ⟨_, _, _, e, _⟩ := r3
    exact (List.getElem?_eq_some_iff.1 e).1
  rw [spec_l20Triangle.body0_eq]
  unfold spec_l20Triangle.body0
  simp only [env_C, env_buildSlice, env_bin, env_append]
  cases m' with
  | succ m' =>
    obtain ⟨v2, h4, e4, r4, ok4, b1, b2, _⟩ := pick_calls g lf n (by omega) 2 r3 (by omega) (by omega)
    have b2' := b2 (by omega)
    have o4 := o3.keepOnly ok4 (by omega)
    have k4 := k3.trans ok4.keep
    have hl4 := ok4.1
    have hw2 : -4611686018427387904 ≤ (1 : Int) + v2 ∧ (1 : Int) + v2 ≤ 4611686018427387904 := by omega
    repeat (first | with_reducible refine wT ?_ | with_reducible refine wbd (by assumption) ?_ | (with_reducible refine wbd (eC _) ?_) | (with_reducible refine wadd hw2 ?_) | with_reducible refine wlssT (by omega) ?_ | dsimp only)
    repeat (first | (refine wap o4 (by omega) (by omega) fun p' h6 o6 k6 => ?_) | with_reducible refine wadd1 (by omega) ?_ | dsimp only)
    exact next _ _ (Nat.lt_succ_self m') ⟨i + 1, p', zs ++ [1 + v2], h6, rfl, by omega, by simp; omega, bnd_app hb (by omega), o6, k4.trans (k6.mono (by omega)), r4.keep k6 (by omega)⟩
  | zero =>
    have hiT : i = T := by omega
    obtain ⟨b, h5, e5, r5, ok5⟩ := odd_calls g lf n (by omega) k r3 (by omega) (by omega) hk0
    have o5 := o3.keepOnly ok5 (by omega)
    have k5 := k3.trans ok5.keep
    have hl5 := ok5.1
    cases b with
    | false =>
      have hres := o5.res
      repeat (first | with_reducible refine wF ?_ | with_reducible refine wrI ?_ | with_reducible refine wbd (by assumption) ?_ | (with_reducible refine wbd (eC _) ?_) | with_reducible refine wlssF (by omega) ?_ | rw [kLoop_exit] | rw [spec_l20Triangle.after0_se0_0_1_6_7_8_16] | dsimp only | simp only [env_C, env_g, env_lf, env_pick, env_alloc, env_box, env_build, env_buildSlice, env_load, env_store, env_ptr, env_bin, env_un, env_conv, env_make, env_slice, env_fieldAddr, env_field, env_indexAddr, env_index, env_extract, env_len, env_append, env_max, env_min, env_makeMap, env_lookup, env_update])
      exact W.ret ⟨s, q, zs, rfl, k5, o5, by omega, hb, by omega, by omega, r5.mono (by omega)⟩
    | true =>
      obtain ⟨v6, h6, e6, r6, ok6, c1, c2, _⟩ := pick_calls g lf n (by omega) 3 r5 (by omega) (by omega)
      have c2' := c2 (by omega)
      have o6 := o5.keepOnly ok6 (by omega)
      have k6 := k5.trans ok6.keep
      have hl6 := ok6.1
      have hres := o6.res
      by_cases d0 : v6 = 0
      · repeat (first | with_reducible refine wT ?_ | with_reducible refine wF ?_ | with_reducible refine wrI ?_ | with_reducible refine wbd (by assumption) ?_ | (with_reducible refine wbd (eC _) ?_) | with_reducible refine wlssF (by omega) ?_ | with_reducible refine weqlT (by omega) ?_ | rw [kLoop_exit] | rw [spec_l20Triangle.after0_se0_0_1_6_7_8_16] | dsimp only | simp only [env_C, env_g, env_lf, env_pick, env_alloc, env_box, env_build, env_buildSlice, env_load, env_store, env_ptr, env_bin, env_un, env_conv, env_make, env_slice, env_fieldAddr, env_field, env_indexAddr, env_index, env_extract, env_len, env_append, env_max, env_min, env_makeMap, env_lookup, env_update])
        exact W.ret ⟨5, q, zs, rfl, k6, o6, by omega, hb, by omega, by omega, r6.mono (by omega)⟩
      · by_cases d1 : v6 = 1
        · have e7 : buildSliceP Tryd.prog 25 2 [(0, .int .i64 0), (1, .int .i64 3)] h6 = some (.sl h6.length 0 2, h6 ++ [.own 1 [.int .i64 0, .int .i64 3]]) := by simpa using lit2 h6 [] 0 3
          have oL : OwnSl (id + 1) (h6 ++ [.own 1 [.int .i64 0, .int .i64 3]]) (.sl h6.length 0 2) [0, 3] := .inr ⟨h6.length, by omega, rfl, by simp⟩
          have k7 : Keep h6.length h6 (h6 ++ [.own 1 [.int .i64 0, .int .i64 3]]) := ⟨by simp, fun j hj => List.getElem?_append_left hj⟩
          obtain ⟨h7, hh7⟩ : ∃ h7, h7 = h6 ++ [PObj.own 1 [PV.int .i64 0, PV.int .i64 3]] := ⟨_, rfl⟩
          rw [← hh7] at e7 oL k7
          have o7 := o6.keep k7
          have r7 := r6.keep k7 (by omega)
          have hl7 := k7.1
          obtain ⟨v8, h8, e8, r8, ok8, f1, f2, _⟩ := pick_calls g lf n (by omega) 2 r7 (by omega) (by omega)
          have f2' := f2 (by omega)
          obtain ⟨J, rfl⟩ := Int.eq_ofNat_of_zero_le f1
          have o8 := o7.keepOnly ok8 (by omega)
          have oL8 := oL.keepOnly ok8 (by omega)
          have hl8 := ok8.1
          obtain ⟨a, ea, la⟩ := oL8.int.at' (i := J) (show J < 2 by omega)
          have hz0 : 0 < zs.length := by omega
          repeat (first | with_reducible refine wT ?_ | with_reducible refine wF ?_ | with_reducible refine wbd (by assumption) ?_ | (with_reducible refine wbd (eC _) ?_) | with_reducible refine wlssF (by omega) ?_ | with_reducible refine weqlT (by omega) ?_ | with_reducible refine weqlF (by omega) ?_ | rw [kLoop_exit] | rw [spec_l20Triangle.after0_se0_0_1_6_7_8_16] | dsimp only | simp only [env_C, env_g, env_lf, env_pick, env_alloc, env_box, env_build, env_buildSlice, env_load, env_store, env_ptr, env_bin, env_un, env_conv, env_make, env_slice, env_fieldAddr, env_field, env_indexAddr, env_index, env_extract, env_len, env_append, env_max, env_min, env_makeMap, env_lookup, env_update])
          refine wst (i := 0) o8 hz0 fun h9 o9 k9 l9 a9 e9 => ?_
          have hres9 := o9.res
          repeat (first | with_reducible refine wrI ?_ | with_reducible refine wbd (by assumption) ?_)
          exact W.ret ⟨s, q, _, rfl, k6.trans ((k7.mono (by omega)).trans (ok8.keep.trans (k9.mono (by omega)))), o9, by simp; omega, bnd_set hb (lit_bnd _), by omega, by omega, (r8.keep k9 (by omega)).mono (by omega)⟩
        · repeat (first | with_reducible refine wT ?_ | with_reducible refine wF ?_ | with_reducible refine wbd (by assumption) ?_ | (with_reducible refine wbd (eC _) ?_) | with_reducible refine wlssF (by omega) ?_ | with_reducible refine weqlF (by omega) ?_ | rw [kLoop_exit] | rw [spec_l20Triangle.after0_se0_0_1_6_7_8_16] | dsimp only | simp only [env_C, env_g, env_lf, env_pick, env_alloc, env_box, env_build, env_buildSlice, env_load, env_store, env_ptr, env_bin, env_un, env_conv, env_make, env_slice, env_fieldAddr, env_field, env_indexAddr, env_index, env_extract, env_len, env_append, env_max, env_min, env_makeMap, env_lookup, env_update])
          repeat (first | with_reducible refine wrI ?_ | (refine wap o6 (by omega) (by omega) fun p' h7 o7 k7 => ?_) | with_reducible refine wresO (by assumption) ?_ | dsimp only)
          have hres7 := o7.res
          skip
          exact W.ret ⟨s, p', _, rfl, k6.trans (k7.mono (by omega)), o7, by simp; omega, bnd_app hb (by decide), by omega, by omega, (r6.keep k7 (by omega)).mono (by omega)⟩

theorem drawShrunk_W {p : PV} {ys : List Int} {h : PHeap} (N : Nat) (hN : 6 ≤ N) (ha : Arg h p ys) (hlf : 20 < lf) :
    ∃ (s : Int) (q : PV) (xs : List Int) (h' : PHeap), CL g lf N fn_spec_DrawShrunk [p] h = some (.tup [.int .i64 s, q], h') ∧ Keep h.length h h' ∧ IntSl .i64 h' q xs ∧ xs.length ≤ 11 ∧ (∀ x ∈ xs, 0 ≤ x ∧ x ≤ 3) ∧ 1 ≤ s ∧ s ≤ 5 := by
  obtain ⟨n, rfl⟩ : ∃ n, N = n + 1 := ⟨N - 1, by omega⟩
  have : W (CL g lf (n + 1) fn_spec_DrawShrunk [p] h) fun v h' => ∃ (s : Int) (q : PV) (xs : List Int), v = .tup [.int .i64 s, q] ∧ Keep h.length h h' ∧ IntSl .i64 h' q xs ∧ xs.length ≤ 11 ∧ (∀ x ∈ xs, 0 ≤ x ∧ x ≤ 3) ∧ 1 ≤ s ∧ s ≤ 5 := by
    obtain ⟨h1, e1, r1, k1⟩ := open_calls g lf n (by omega) ha
    rw [spec_DrawShrunk.call_eq]
    unfold spec_DrawShrunk.main
    simp only [env_C, env_extract]
    repeat (first | with_reducible refine wbd (by assumption) ?_ | dsimp only)
    refine wcall (triangle_W g lf n (by omega) 9 r1 (by omega) (by omega) (by omega) hlf) fun v h2 ⟨s, q, xs, hv, k2, o2, hl, hbd, h1s, h5s, _⟩ => ?_
    subst hv
    have hres := o2.res
    repeat (first | with_reducible refine wrI ?_ | with_reducible refine wx0 ?_ | with_reducible refine wx1 ?_ | with_reducible refine wbd (by assumption) ?_ | dsimp only)
    exact W.ret ⟨s, q, xs, rfl, k1.trans k2, o2.int, hl, hbd, h1s, h5s⟩
  obtain ⟨v, h', e, s, q, xs, rfl, rest⟩ := this
  exact ⟨s, q, xs, h', e, rest⟩

theorem drawLastCell_W {p : PV} {ys : List Int} {h : PHeap} (N : Nat) (hN : 6 ≤ N) (ha : Arg h p ys) (hlf : 20 < lf) :
    ∃ (s : Int) (q : PV) (xs : List Int) (h' : PHeap), CL g lf N fn_spec_DrawLastCell [p] h = some (.tup [.int .i64 s, q], h') ∧ Keep h.length h h' ∧ IntSl .i64 h' q xs ∧ xs.length ≤ 11 ∧ (∀ x ∈ xs, 0 ≤ x ∧ x ≤ 3) ∧ 1 ≤ s ∧ s ≤ 5 := by
  obtain ⟨n, rfl⟩ : ∃ n, N = n + 1 := ⟨N - 1, by omega⟩
  have : W (CL g lf (n + 1) fn_spec_DrawLastCell [p] h) fun v h' => ∃ (s : Int) (q : PV) (xs : List Int), v = .tup [.int .i64 s, q] ∧ Keep h.length h h' ∧ IntSl .i64 h' q xs ∧ xs.length ≤ 11 ∧ (∀ x ∈ xs, 0 ≤ x ∧ x ≤ 3) ∧ 1 ≤ s ∧ s ≤ 5 := by
    obtain ⟨h1, e1, r1, k1⟩ := open_calls g lf n (by omega) ha
    rw [spec_DrawLastCell.call_eq]
    unfold spec_DrawLastCell.main
    simp only [env_C, env_extract]
    repeat (first | with_reducible refine wbd (by assumption) ?_ | dsimp only)
    refine wcall (triangle_W g lf n (by omega) 9 r1 (by omega) (by omega) (by omega) hlf) fun v h2 ⟨s, q, xs, hv, k2, o2, hl, hbd, h1s, h5s, _⟩ => ?_
    subst hv
    have hres := o2.res
    repeat (first | with_reducible refine wrI ?_ | with_reducible refine wx0 ?_ | with_reducible refine wx1 ?_ | with_reducible refine wbd (by assumption) ?_ | dsimp only)
    exact W.ret ⟨s, q, xs, rfl, k1.trans k2, o2.int, hl, hbd, h1s, h5s⟩
  obtain ⟨v, h', e, s, q, xs, rfl, rest⟩ := this
  exact ⟨s, q, xs, h', e, rest⟩

section
variable {Q : PV → PHeap → Prop} {x : Nat} {f : PV → Res}
theorem wquo39 (h2 : x < 4611686018427387904) (hf : W (f (.int .i64 ((x / 39 : Nat) : Int))) Q) : W ((binP Tryd.prog .quo 3 (.int .i64 (x : Int)) (.int .i64 39)).bind f) Q := wquoN (y := 39) (by decide) h2 hf
theorem wquo29 (h2 : x < 4611686018427387904) (hf : W (f (.int .i64 ((x / 29 : Nat) : Int))) Q) : W ((binP Tryd.prog .quo 3 (.int .i64 (x : Int)) (.int .i64 29)).bind f) Q := wquoN (y := 29) (by decide) h2 hf
end

theorem drawJoinsAll_W {p : PV} {ys : List Int} {h : PHeap} (N : Nat) (hN : 6 ≤ N) (ha : Arg h p ys) (hlf : 20 < lf) :
    ∃ (s : Int) (q : PV) (xs : List Int) (pl : Int) (h' : PHeap), CL g lf N fn_spec_DrawJoinsAll [p] h = some (.tup [.int .i64 s, q, .int .i64 pl], h') ∧ Keep h.length h h' ∧ IntSl .i64 h' q xs ∧ xs.length ≤ 11 ∧ (∀ x ∈ xs, 0 ≤ x ∧ x ≤ 3) ∧ 1 ≤ s ∧ s ≤ 5 ∧ 1 ≤ pl ∧ pl ≤ 4 := by
  obtain ⟨n, rfl⟩ : ∃ n, N = n + 1 := ⟨N - 1, by omega⟩
  have : W (CL g lf (n + 1) fn_spec_DrawJoinsAll [p] h) fun v h' => ∃ (s : Int) (q : PV) (xs : List Int) (pl : Int), v = .tup [.int .i64 s, q, .int .i64 pl] ∧ Keep h.length h h' ∧ IntSl .i64 h' q xs ∧ xs.length ≤ 11 ∧ (∀ x ∈ xs, 0 ≤ x ∧ x ≤ 3) ∧ 1 ≤ s ∧ s ≤ 5 ∧ 1 ≤ pl ∧ pl ≤ 4 := by
    obtain ⟨h1, e1, r1, k1⟩ := open_calls g lf n (by omega) ha
    rw [spec_DrawJoinsAll.call_eq]
    unfold spec_DrawJoinsAll.main
    simp only [env_C, env_bin, env_extract]
    repeat (first | with_reducible refine wbd (by assumption) ?_ | dsimp only)
    refine wcall (triangle_W g lf n (by omega) 12 r1 (by omega) (by omega) (by omega) hlf) fun v h2 ⟨s, q, xs, hv, k2, o2, hl, hbd, h1s, h5s, r2⟩ => ?_
    subst hv
    obtain ⟨v3, h3, e3, r3, ok3, b1, b2, _⟩ := pick_calls g lf n (by omega) 2 r2 (by omega) (by omega)
    have b2' := b2 (by omega)
    obtain ⟨v4, h4, e4, r4, ok4, c1, c2, _⟩ := pick_calls g lf n (by omega) 40 r3 (by omega) (by omega)
    have c2' := c2 (by omega)
    obtain ⟨V4, rfl⟩ := Int.eq_ofNat_of_zero_le c1
    have o4 := (o2.keepOnly ok3 (by omega)).keepOnly ok4 (by omega)
    have hres := o4.res
    have hq : V4 / 39 ≤ 1 := by omega
    obtain ⟨D, hD⟩ : ∃ D, D = V4 / 39 := ⟨_, rfl⟩
    rw [← hD] at hq
    have hw1 : -4611686018427387904 ≤ (1 : Int) + v3 ∧ (1 : Int) + v3 ≤ 4611686018427387904 := by omega
    have hw2 : -4611686018427387904 ≤ (D : Int) * 2 ∧ (D : Int) * 2 ≤ 4611686018427387904 := by omega
    have hw3 : -4611686018427387904 ≤ (1 : Int) + v3 + (D : Int) * 2 ∧ (1 : Int) + v3 + (D : Int) * 2 ≤ 4611686018427387904 := by omega
    repeat (first | with_reducible refine wrI ?_ | with_reducible refine wx0 ?_ | with_reducible refine wx1 ?_ | with_reducible refine wbd (by assumption) ?_ | (with_reducible refine wadd hw1 ?_) | (with_reducible refine wquo39 (by omega) ?_) | (rw [← hD]) | (with_reducible refine wmul hw2 ?_) | (with_reducible refine wadd hw3 ?_) | dsimp only)
    exact W.ret ⟨s, q, xs, 1 + v3 + (D : Int) * 2, rfl, k1.trans (k2.trans (ok3.keep.trans ok4.keep)), o4.int, hl, hbd, h1s, h5s, by omega, by omega⟩
  obtain ⟨v, h', e, s, q, xs, pl, rfl, rest⟩ := this
  exact ⟨s, q, xs, pl, h', e, rest⟩

theorem drawTriangleNear_W {p : PV} {ys : List Int} {h : PHeap} (N : Nat) (hN : 6 ≤ N) (ha : Arg h p ys) (hlf : 20 < lf) :
    ∃ (s k : Int) (h' : PHeap), CL g lf N fn_spec_DrawTriangleNear [p] h = some (.tup [.int .i64 s, .int .i64 k], h') ∧ Keep h.length h h' ∧ 1 ≤ s ∧ s ≤ 8 ∧ -11 ≤ k ∧ k ≤ 10 := by
  obtain ⟨n, rfl⟩ : ∃ n, N = n + 1 := ⟨N - 1, by omega⟩
  have : W (CL g lf (n + 1) fn_spec_DrawTriangleNear [p] h) fun v h' => ∃ (s k : Int), v = .tup [.int .i64 s, .int .i64 k] ∧ Keep h.length h h' ∧ 1 ≤ s ∧ s ≤ 8 ∧ -11 ≤ k ∧ k ≤ 10 := by
    obtain ⟨h1, e1, r1, k1⟩ := open_calls g lf n (by omega) ha
    obtain ⟨v2, h2, e2, r2, ok2, a1, a2, _⟩ := pick_calls g lf n (by omega) 4 r1 (by omega) (by omega)
    have a2' := a2 (by omega)
    obtain ⟨v3, h3, e3, r3, ok3, b1, b2, _⟩ := pick_calls g lf n (by omega) 40 r2 (by omega) (by omega)
    have b2' := b2 (by omega)
    obtain ⟨v4, h4, e4, r4, ok4, c1, c2, _⟩ := pick_calls g lf n (by omega) 11 r3 (by omega) (by omega)
    have c2' := c2 (by omega)
    obtain ⟨v5, h5, e5, r5, ok5, d1, d2, _⟩ := pick_calls g lf n (by omega) 40 r4 (by omega) (by omega)
    have d2' := d2 (by omega)
    obtain ⟨V3, rfl⟩ := Int.eq_ofNat_of_zero_le b1
    obtain ⟨V5, rfl⟩ := Int.eq_ofNat_of_zero_le d1
    have hq : V3 / 39 ≤ 1 := by omega
    obtain ⟨D, hD⟩ : ∃ D, D = V3 / 39 := ⟨_, rfl⟩
    rw [← hD] at hq
    have hq2 : V5 / 39 ≤ 1 := by omega
    obtain ⟨E, hE⟩ : ∃ E, E = V5 / 39 := ⟨_, rfl⟩
    rw [← hE] at hq2
    have hw1 : -4611686018427387904 ≤ (1 : Int) + v2 ∧ (1 : Int) + v2 ≤ 4611686018427387904 := by omega
    have hw2 : -4611686018427387904 ≤ (D : Int) * 4 ∧ (D : Int) * 4 ≤ 4611686018427387904 := by omega
    have hw3 : -4611686018427387904 ≤ (1 : Int) + v2 + (D : Int) * 4 ∧ (1 : Int) + v2 + (D : Int) * 4 ≤ 4611686018427387904 := by omega
    have hw4 : -4611686018427387904 ≤ (E : Int) * 11 ∧ (E : Int) * 11 ≤ 4611686018427387904 := by omega
    have hw5 : -4611686018427387904 ≤ v4 - (E : Int) * 11 ∧ v4 - (E : Int) * 11 ≤ 4611686018427387904 := by omega
    rw [spec_DrawTriangleNear.call_eq]
    unfold spec_DrawTriangleNear.main
    simp only [env_C, env_bin]
    repeat (first | with_reducible refine wrI ?_ | with_reducible refine wbd (by assumption) ?_ | (with_reducible refine wadd hw1 ?_) | (with_reducible refine wquo39 (by omega) ?_) | (rw [← hD]) | (with_reducible refine wmul hw2 ?_) | (with_reducible refine wadd hw3 ?_) | (rw [← hE]) | (with_reducible refine wmul hw4 ?_) | (with_reducible refine wsub hw5 ?_) | dsimp only)
    exact W.ret ⟨1 + v2 + (D : Int) * 4, v4 - (E : Int) * 11, rfl, k1.trans (ok2.keep.trans (ok3.keep.trans (ok4.keep.trans ok5.keep))), by omega, by omega, by omega, by omega⟩
  obtain ⟨v, h', e, s, k, rfl, rest⟩ := this
  exact ⟨s, k, h', e, rest⟩

theorem drawTriangleWins_W {p : PV} {ys : List Int} {h : PHeap} (N : Nat) (hN : 6 ≤ N) (ha : Arg h p ys) (hlf : 20 < lf) :
    ∃ (s k : Int) (h' : PHeap), CL g lf N fn_spec_DrawTriangleWins [p] h = some (.tup [.int .i64 s, .int .i64 k], h') ∧ Keep h.length h h' ∧ 1 ≤ s ∧ s ≤ 8 ∧ -11 ≤ k ∧ k ≤ 10 := by
  obtain ⟨n, rfl⟩ : ∃ n, N = n + 1 := ⟨N - 1, by omega⟩
  have : W (CL g lf (n + 1) fn_spec_DrawTriangleWins [p] h) fun v h' => ∃ (s k : Int), v = .tup [.int .i64 s, .int .i64 k] ∧ Keep h.length h h' ∧ 1 ≤ s ∧ s ≤ 8 ∧ -11 ≤ k ∧ k ≤ 10 := by
    obtain ⟨h1, e1, r1, k1⟩ := open_calls g lf n (by omega) ha
    obtain ⟨v2, h2, e2, r2, ok2, a1, a2, _⟩ := pick_calls g lf n (by omega) 3 r1 (by omega) (by omega)
    have a2' := a2 (by omega)
    obtain ⟨v3, h3, e3, r3, ok3, b1, b2, _⟩ := pick_calls g lf n (by omega) 30 r2 (by omega) (by omega)
    have b2' := b2 (by omega)
    obtain ⟨v6, h6, e6, r6, ok6, f1, f2, _⟩ := pick_calls g lf n (by omega) 40 r3 (by omega) (by omega)
    have f2' := f2 (by omega)
    obtain ⟨V2, rfl⟩ := Int.eq_ofNat_of_zero_le a1
    obtain ⟨V3, rfl⟩ := Int.eq_ofNat_of_zero_le b1
    obtain ⟨V6, rfl⟩ := Int.eq_ofNat_of_zero_le f1
    have hq : V3 / 29 ≤ 1 := by omega
    obtain ⟨D, hD⟩ : ∃ D, D = V3 / 29 := ⟨_, rfl⟩
    rw [← hD] at hq
    have hq2 : V6 / 39 ≤ 1 := by omega
    obtain ⟨E, hE⟩ : ∃ E, E = V6 / 39 := ⟨_, rfl⟩
    rw [← hE] at hq2
    obtain ⟨S, hS⟩ : ∃ S, S = 1 + V2 + D := ⟨_, rfl⟩
    have hSi : (1 : Int) + (V2 : Int) + (D : Int) = (S : Int) := by omega
    have eC := l7Cells_N g lf (s := S) (by omega) n (by omega) h6
    have hc10 := cellsT_le (s := S) (by omega)
    obtain ⟨T, hT⟩ : ∃ T, T = cellsT S := ⟨_, rfl⟩
    rw [← hT] at eC hc10
    obtain ⟨v4, h4, e4, r4, ok4, c1, c2, _⟩ := pick_calls g lf n (by omega) ((T + 1 : Nat) : Int) r6 (by omega) (by omega)
    have c2' := c2 (by omega)
    obtain ⟨v5, h5, e5, r5, ok5, d1, d2, _⟩ := pick_calls g lf n (by omega) 40 r4 (by omega) (by omega)
    have d2' := d2 (by omega)
    obtain ⟨V5, rfl⟩ := Int.eq_ofNat_of_zero_le d1
    have hq3 : V5 / 39 ≤ 1 := by omega
    obtain ⟨F, hF⟩ : ∃ F, F = V5 / 39 := ⟨_, rfl⟩
    rw [← hF] at hq3
    have hw1 : -4611686018427387904 ≤ (1 : Int) + (V2 : Int) ∧ (1 : Int) + (V2 : Int) ≤ 4611686018427387904 := by omega
    have hw0 : -4611686018427387904 ≤ (1 : Int) + (V2 : Int) + (D : Int) ∧ (1 : Int) + (V2 : Int) + (D : Int) ≤ 4611686018427387904 := by omega
    have hw2 : -4611686018427387904 ≤ (E : Int) * 4 ∧ (E : Int) * 4 ≤ 4611686018427387904 := by omega
    have hw3 : -4611686018427387904 ≤ (S : Int) + (E : Int) * 4 ∧ (S : Int) + (E : Int) * 4 ≤ 4611686018427387904 := by omega
    have hw4 : -4611686018427387904 ≤ (F : Int) * 11 ∧ (F : Int) * 11 ≤ 4611686018427387904 := by omega
    have hw5 : -4611686018427387904 ≤ v4 - (F : Int) * 11 ∧ v4 - (F : Int) * 11 ≤ 4611686018427387904 := by omega
    rw [spec_DrawTriangleWins.call_eq]
    unfold spec_DrawTriangleWins.main
    simp only [env_C, env_bin]
    repeat (first | with_reducible refine wrI ?_ | with_reducible refine wbd (by assumption) ?_ | (with_reducible refine wadd hw1 ?_) | (with_reducible refine wquo29 (by omega) ?_) | (with_reducible refine wquo39 (by omega) ?_) | (rw [← hD]) | (with_reducible refine wadd hw0 ?_) | (rw [hSi]) | (rw [← hE]) | (with_reducible refine wmul hw2 ?_) | (with_reducible refine wadd hw3 ?_) | (rw [← hF]) | (with_reducible refine wmul hw4 ?_) | (with_reducible refine wsub hw5 ?_) | with_reducible refine wadd1 (by omega) ?_ | dsimp only)
    exact W.ret ⟨(S : Int) + (E : Int) * 4, v4 - (F : Int) * 11, rfl, k1.trans (ok2.keep.trans (ok3.keep.trans (ok6.keep.trans (ok4.keep.trans ok5.keep)))), by omega, by omega, by omega, by omega⟩
  obtain ⟨v, h', e, s, k, rfl, rest⟩ := this
  exact ⟨s, k, h', e, rest⟩

end Go.Proofs.YtlefknibddkjpaaDoor

