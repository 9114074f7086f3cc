/- What a pick and a chance come to. -/
import Derived.Test.YtiflfnlpkhghpaaDoorRd
namespace Go.Proofs.YtiflfnlpkhghpaaDoor
open Go Go.Ip Go.RowKit G

variable (g : Nat → PV) (lf n : Nat)

theorem tmod_range {x k : Int} (hx : 0 ≤ x) (hk : 1 ≤ k) : 0 ≤ x.tmod k ∧ x.tmod k < k := by
  rw [Int.tmod_eq_emod_of_nonneg hx]
  exact ⟨Int.emod_nonneg _ (by omega), Int.emod_lt_of_pos _ (by omega)⟩

theorem tdiv_range {x k : Int} (hx : 0 ≤ x) (hk : 1 ≤ k) : 0 ≤ x.tdiv k ∧ x.tdiv k ≤ x := by
  rw [Int.tdiv_eq_ediv_of_nonneg hx]
  exact ⟨Int.ediv_nonneg hx (by omega), Int.ediv_le_self _ hx⟩

theorem bd {α β : Type} {x : Option α} {v : α} {f : α → Option β} {r : Option β} (hx : x = some v) (hf : f v = r) : x.bind f = r := by rw [hx]; exact hf
theorem cdT {x y r : Res} (h : x = r) : condP (.bool true) x y = r := h
theorem cdF {x y r : Res} (h : y = r) : condP (.bool false) x y = r := h
theorem bifT {α : Type} {x y : α} : (bif true then x else y) = x := rfl

/-- A pick of n: some number from 0 on, below n; the reader has gone on by one. -/
theorem pick_calls {h : PHeap} {id m : Nat} (N : Nat) (hN : 1 ≤ N) (k : Int) (hr : Rd h id m) (hm : m ≤ 1000000) (hk : k ≤ 1000000) :
    ∃ (v : Int) (h' : PHeap), CL g lf N fn_spec_l20Rd_pick [.ptr id 0, .int .i64 k] h = some (.int .i64 v, h') ∧ Rd h' id (m + 1) ∧ Only id (id + 1) h h' ∧ 0 ≤ v ∧ (1 ≤ k → v < k) ∧ (k < 1 → v = 0) := by
  obtain ⟨n, rfl⟩ : ∃ n, N = n + 1 := ⟨N - 1, by omega⟩
  rw [spec_l20Rd_pick.call_eq]
  obtain ⟨bp, bs, pos, ho, hs, hb, hl, hp0, hpm⟩ := hr
  have hid : id < h.length := (List.getElem?_eq_some_iff.1 ho).1
  have w1 : IntKind.i64.wrap (pos + 1) = pos + 1 := wr (by omega)
  have hld : loadP Tryd.prog 3 (.ptr id (0 + 1)) h = some (.int .i64 pos) := by simp [loadP, tyAgg, cellsAt, ho, PObj.get]
  obtain ⟨h7, hh7⟩ : ∃ h7, h7 = h.set id (.own 1 [bp, .int .i64 (pos + 1)]) := ⟨_, rfl⟩
  have hst : storeP Tryd.prog 3 (.ptr id (0 + 1)) (.int .i64 (pos + 1)) h = some h7 := by
    rw [hh7]
    simp [storeP, ho, PV.cells, tySize, setCells]
  have ho7 : h7[id]? = some (.own 1 [bp, .int .i64 (pos + 1)]) := by rw [hh7, List.getElem?_set_self hid]
  have hk7 : Keep id h h7 := by rw [hh7]; exact Keep.set _ _ _ _ (Nat.le_refl _)
  have hon : Only id (id + 1) h h7 := by rw [hh7]; exact ⟨by simp, fun j hj => List.getElem?_set_ne (by omega)⟩
  have hrd : Rd h7 id (m + 1) := ⟨bp, bs, pos + 1, ho7, fun h' hk' => hs h' (hk7.trans hk'), hb, hl, by omega, by push_cast; omega⟩
  have hl1 : loadP Tryd.prog 3 (.ptr id (0 + 1)) h7 = some (.int .i64 (pos + 1)) := by simp [loadP, tyAgg, cellsAt, ho7, PObj.get]
  have hl0 : loadP Tryd.prog 22 (.ptr id (0 + 0)) h7 = some bp := by simp [loadP, tyBsAgg, cellsAt, ho7, PObj.get]
  have hs7 := hs h7 hk7
  have hlen : lenP Tryd.prog 22 bp = some (.int .i64 bs.length) := hs7.len tyB
  have w2 : IntKind.i64.wrap (pos + 1 - 1) = pos := by rw [show pos + 1 - 1 = pos by omega]; exact wr (by omega)
  by_cases hk1 : k < 1
  · refine ⟨0, h7, ?_, hrd, hon, by omega, by omega, fun _ => rfl⟩
    have f_add : binP Tryd.prog .add 3 (.int .i64 pos) (.int .i64 1) = some (.int .i64 (pos + 1)) := by rw [bin_add, w1]
    have f_lss : binP Tryd.prog .lss 3 (.int .i64 k) (.int .i64 1) = some (.bool true) := by rw [bin_lss, decide_eq_true hk1]
    unfold spec_l20Rd_pick.main
    refine bd ptr_ptr (bd (fa1 _ _) (bd hld (bd f_add (bd ptr_ptr (bd (fa1 _ _) (bd hst (bd f_lss ?_)))))))
    refine bd (want_bool (x := true) (y := false)) (bd (v := (PV.tup [], h7)) rfl ?_)
    refine bd (want_bool (x := true) (y := false)) (bd (v := (PV.tup [], h7)) rfl ?_)
    refine bd (want_bool (x := true) (y := false)) (bd (v := (PV.tup [], h7)) rfl ?_)
    refine bd (want_bool (x := true) (y := false)) (bd (v := (PV.tup [], h7)) rfl ?_)
    refine bd (want_bool (x := true) (y := false)) (bd (v := (PV.tup [], h7)) rfl ?_)
    refine bd (want_bool (x := true) (y := false)) (bd (v := (PV.tup [], h7)) rfl ?_)
    refine bd (v := PV.bool true) rfl (cdT ?_)
    exact bd res_int rfl
  · have hk1' : 1 ≤ k := by omega
    by_cases hb0 : bs.length = 0
    · refine ⟨0, h7, ?_, hrd, hon, by omega, by omega, by omega⟩
      have f_add : binP Tryd.prog .add 3 (.int .i64 pos) (.int .i64 1) = some (.int .i64 (pos + 1)) := by rw [bin_add, w1]
      have f_lss : binP Tryd.prog .lss 3 (.int .i64 k) (.int .i64 1) = some (.bool false) := by rw [bin_lss, decide_eq_false hk1]
      have f_eql : binP Tryd.prog .eql 3 (.int .i64 (bs.length : Int)) (.int .i64 0) = some (.bool true) := by rw [bin_eql, hb0]; rfl
      unfold spec_l20Rd_pick.main
      refine bd ptr_ptr (bd (fa1 _ _) (bd hld (bd f_add (bd ptr_ptr (bd (fa1 _ _) (bd hst (bd f_lss ?_)))))))
      refine bd (want_bool (x := false) (y := false)) (bd (v := (PV.ptr id 0, h7)) rfl ?_)
      refine bd (want_bool (x := false) (y := false)) (bd (v := (PV.ptr id 0, h7)) rfl ?_)
      refine bd (want_bool (x := false) (y := false)) (bd (v := (PV.ptr id (0 + 0), h7)) (congrArg (pv h7) (fa0 id 0)) ?_)
      refine bd (want_bool (x := false) (y := false)) (bd (v := (bp, h7)) (congrArg (pv h7) hl0) ?_)
      refine bd (want_bool (x := false) (y := false)) (bd (v := (PV.int .i64 (bs.length : Int), h7)) (congrArg (pv h7) hlen) ?_)
      refine bd (want_bool (x := false) (y := false)) (bd (v := (PV.bool true, h7)) (congrArg (pv h7) f_eql) ?_)
      refine bd (v := PV.bool true) rfl (cdT ?_)
      exact bd res_int rfl
    · have hb1 : 1 ≤ (bs.length : Int) := by omega
      have hne : ((bs.length : Int) == 0) = false := beq_eq_false_iff_ne.2 (by omega)
      obtain ⟨P, hP⟩ := Int.eq_ofNat_of_zero_le hp0
      subst hP
      have byte : ∀ (j : Nat) (hj : j < bs.length), ∃ a, indexAddrP Tryd.prog 22 bp (.int .i64 j) = some a ∧ loadP Tryd.prog 5 a h7 = some (.int .u8 bs[j]) ∧ 0 ≤ bs[j] ∧ bs[j] ≤ 255 ∧ IntKind.i64.wrap bs[j] = bs[j] := by
        intro j hj
        obtain ⟨a, h1, h2⟩ := hs7.at tyB tyBSize tyBAgg hj
        have := hb _ (List.getElem_mem hj)
        exact ⟨a, h1, h2, this.1, this.2, wr (by omega)⟩
      by_cases hlt : (P : Int) < (bs.length : Int)
      · obtain ⟨a, ha, hla, hb2, hb3, hw⟩ := byte P (by omega)
        have hr := tmod_range hb2 hk1'
        refine ⟨bs[P].tmod k, h7, ?_, hrd, hon, hr.1, fun _ => hr.2, by omega⟩
        have hrem := bin_rem (P := Tryd.prog) (t := 3) (k := .i64) (a := bs[P]) (show k ≠ 0 by omega)
        have f_add : binP Tryd.prog .add 3 (.int .i64 (P : Int)) (.int .i64 1) = some (.int .i64 ((P : Int) + 1)) := by rw [bin_add, w1]
        have f_lss : binP Tryd.prog .lss 3 (.int .i64 k) (.int .i64 1) = some (.bool false) := by rw [bin_lss, decide_eq_false hk1]
        have f_eql : binP Tryd.prog .eql 3 (.int .i64 (bs.length : Int)) (.int .i64 0) = some (.bool false) := by rw [bin_eql, hne]
        have f_sub : binP Tryd.prog .sub 3 (.int .i64 ((P : Int) + 1)) (.int .i64 1) = some (.int .i64 (P : Int)) := by rw [bin_sub, w2]
        have f_lt : binP Tryd.prog .lss 3 (.int .i64 (P : Int)) (.int .i64 (bs.length : Int)) = some (.bool true) := by rw [bin_lss, decide_eq_true hlt]
        have f_conv : convP Tryd.prog 5 3 (.int .u8 bs[P]) = some (.int .i64 bs[P]) := by rw [conv_byte, hw]
        unfold spec_l20Rd_pick.main
        refine bd ptr_ptr (bd (fa1 _ _) (bd hld (bd f_add (bd ptr_ptr (bd (fa1 _ _) (bd hst (bd f_lss ?_)))))))
        refine bd (want_bool (x := false) (y := false)) (bd (v := (PV.ptr id 0, h7)) rfl ?_)
        refine bd (want_bool (x := false) (y := false)) (bd (v := (PV.ptr id 0, h7)) rfl ?_)
        refine bd (want_bool (x := false) (y := false)) (bd (v := (PV.ptr id (0 + 0), h7)) (congrArg (pv h7) (fa0 id 0)) ?_)
        refine bd (want_bool (x := false) (y := false)) (bd (v := (bp, h7)) (congrArg (pv h7) hl0) ?_)
        refine bd (want_bool (x := false) (y := false)) (bd (v := (PV.int .i64 (bs.length : Int), h7)) (congrArg (pv h7) hlen) ?_)
        refine bd (want_bool (x := false) (y := false)) (bd (v := (PV.bool false, h7)) (congrArg (pv h7) f_eql) ?_)
        refine bd (v := PV.bool false) rfl (cdF ?_)
        refine bd ptr_ptr (bd (fa1 _ _) (bd hl1 (bd f_sub (bd ptr_ptr (bd (fa0 _ _) (bd hl0 (bd hlen (bd f_lt (cdT ?_)))))))))
        refine bd ptr_ptr (bd (fa0 _ _) (bd hl0 (bd ha (bd hla (bd f_conv (bd hrem (bd res_int rfl)))))))
      · -- past its end
        have hr1 := tmod_range (x := (P : Int)) (k := (bs.length : Int)) (by omega) hb1
        obtain ⟨i1, hi1⟩ : ∃ i : Nat, (P : Int).tmod (bs.length : Int) = i := ⟨((P : Int).tmod bs.length).toNat, by omega⟩
        have hr2 := tmod_range (x := (P : Int) * 7 + 3) (k := (bs.length : Int)) (by omega) hb1
        obtain ⟨i2, hi2⟩ : ∃ i : Nat, ((P : Int) * 7 + 3).tmod (bs.length : Int) = i := ⟨(((P : Int) * 7 + 3).tmod bs.length).toNat, by omega⟩
        obtain ⟨a1, ha1, hla1, c1, c2, hw1⟩ := byte i1 (by omega)
        obtain ⟨a2, ha2, hla2, d1, d2, hw2⟩ := byte i2 (by omega)
        obtain ⟨b1, hb1'⟩ : ∃ b, b = bs[i1]'(by omega) := ⟨_, rfl⟩
        obtain ⟨b2, hb2'⟩ : ∃ b, b = bs[i2]'(by omega) := ⟨_, rfl⟩
        rw [← hb1'] at hla1 c1 c2 hw1
        rw [← hb2'] at hla2 d1 d2 hw2
        have hq := tdiv_range (x := (P : Int)) (k := (bs.length : Int)) (by omega) hb1
        have hquo := bin_quo (P := Tryd.prog) (t := 3) (k := .i64) (a := (P : Int)) (show (bs.length : Int) ≠ 0 by omega)
        have hrem1 := bin_rem (P := Tryd.prog) (t := 3) (k := .i64) (a := (P : Int)) (show (bs.length : Int) ≠ 0 by omega)
        have hrem2 := bin_rem (P := Tryd.prog) (t := 3) (k := .i64) (a := (P : Int) * 7 + 3) (show (bs.length : Int) ≠ 0 by omega)
        obtain ⟨q, hq'⟩ : ∃ q, q = (P : Int).tdiv (bs.length : Int) := ⟨_, rfl⟩
        rw [← hq'] at hq hquo
        have u1 : IntKind.i64.wrap (b1 * 131) = b1 * 131 := wr (by omega)
        have u2 : IntKind.i64.wrap ((P : Int) * 7) = (P : Int) * 7 := wr (by omega)
        have u3 : IntKind.i64.wrap ((P : Int) * 7 + 3) = (P : Int) * 7 + 3 := wr (by omega)
        have u4 : IntKind.i64.wrap (b2 * 1117) = b2 * 1117 := wr (by omega)
        have u5 : IntKind.i64.wrap (b1 * 131 + b2 * 1117) = b1 * 131 + b2 * 1117 := wr (by omega)
        have u6 : IntKind.i64.wrap ((P : Int) * 29) = (P : Int) * 29 := wr (by omega)
        have u7 : IntKind.i64.wrap (b1 * 131 + b2 * 1117 + (P : Int) * 29) = b1 * 131 + b2 * 1117 + (P : Int) * 29 := wr (by omega)
        have u8 : IntKind.i64.wrap q = q := wr (by omega)
        have u9 : IntKind.i64.wrap (q * 53) = q * 53 := wr (by omega)
        obtain ⟨X, hX⟩ : ∃ X, X = b1 * 131 + b2 * 1117 + (P : Int) * 29 + q * 53 := ⟨_, rfl⟩
        have u10 : IntKind.i64.wrap X = X := wr (by omega)
        have hX0 : 0 ≤ X := by omega
        have hX1 : X < 4611686018427387904 := by omega
        have hXq := tdiv_range (x := X) (k := 64) hX0 (by omega)
        have hquoX := bin_quo (P := Tryd.prog) (t := 3) (k := .i64) (a := X) (show (64 : Int) ≠ 0 by omega)
        obtain ⟨Y, hY⟩ : ∃ Y, Y = X.tdiv 64 := ⟨_, rfl⟩
        rw [← hY] at hXq hquoX
        have u11 : IntKind.i64.wrap Y = Y := wr (by omega)
        obtain ⟨Z, hZ⟩ : ∃ Z, Z = IntKind.i64.wrap ((BitVec.ofInt IntKind.i64.bits X ^^^ BitVec.ofInt IntKind.i64.bits Y).toNat : Int) := ⟨_, rfl⟩
        have hZ0 : 0 ≤ Z := by rw [hZ]; exact xor_small hX0 hX1 hXq.1 (by omega)
        have hxor : binP Tryd.prog .xor 3 (.int .i64 X) (.int .i64 Y) = some (.int .i64 Z) := by rw [hZ]; simp [binP, binI]
        have hremZ := bin_rem (P := Tryd.prog) (t := 3) (k := .i64) (a := Z) (show k ≠ 0 by omega)
        have hrZ := tmod_range hZ0 hk1'
        refine ⟨Z.tmod k, h7, ?_, hrd, hon, hrZ.1, fun _ => hrZ.2, by omega⟩
        have f_add : binP Tryd.prog .add 3 (.int .i64 (P : Int)) (.int .i64 1) = some (.int .i64 ((P : Int) + 1)) := by rw [bin_add, w1]
        have f_lss : binP Tryd.prog .lss 3 (.int .i64 k) (.int .i64 1) = some (.bool false) := by rw [bin_lss, decide_eq_false hk1]
        have f_eql : binP Tryd.prog .eql 3 (.int .i64 (bs.length : Int)) (.int .i64 0) = some (.bool false) := by rw [bin_eql, hne]
        have f_sub : binP Tryd.prog .sub 3 (.int .i64 ((P : Int) + 1)) (.int .i64 1) = some (.int .i64 (P : Int)) := by rw [bin_sub, w2]
        have f_lt : binP Tryd.prog .lss 3 (.int .i64 (P : Int)) (.int .i64 (bs.length : Int)) = some (.bool false) := by rw [bin_lss, decide_eq_false hlt]
        have f_conv1 : convP Tryd.prog 5 3 (.int .u8 b1) = some (.int .i64 b1) := by rw [conv_byte, hw1]
        have f_conv2 : convP Tryd.prog 5 3 (.int .u8 b2) = some (.int .i64 b2) := by rw [conv_byte, hw2]
        have f_rem1 : binP Tryd.prog .rem 3 (.int .i64 (P : Int)) (.int .i64 (bs.length : Int)) = some (.int .i64 (i1 : Int)) := by rw [hrem1, hi1]
        have f_rem2 : binP Tryd.prog .rem 3 (.int .i64 ((P : Int) * 7 + 3)) (.int .i64 (bs.length : Int)) = some (.int .i64 (i2 : Int)) := by rw [hrem2, hi2]
        have f1 : binP Tryd.prog .mul 3 (.int .i64 b1) (.int .i64 131) = some (.int .i64 (b1 * 131)) := by rw [bin_mul, u1]
        have f2 : binP Tryd.prog .mul 3 (.int .i64 (P : Int)) (.int .i64 7) = some (.int .i64 ((P : Int) * 7)) := by rw [bin_mul, u2]
        have f3 : binP Tryd.prog .add 3 (.int .i64 ((P : Int) * 7)) (.int .i64 3) = some (.int .i64 ((P : Int) * 7 + 3)) := by rw [bin_add, u3]
        have f4 : binP Tryd.prog .mul 3 (.int .i64 b2) (.int .i64 1117) = some (.int .i64 (b2 * 1117)) := by rw [bin_mul, u4]
        have f5 : binP Tryd.prog .add 3 (.int .i64 (b1 * 131)) (.int .i64 (b2 * 1117)) = some (.int .i64 (b1 * 131 + b2 * 1117)) := by rw [bin_add, u5]
        have f6 : binP Tryd.prog .mul 3 (.int .i64 (P : Int)) (.int .i64 29) = some (.int .i64 ((P : Int) * 29)) := by rw [bin_mul, u6]
        have f7 : binP Tryd.prog .add 3 (.int .i64 (b1 * 131 + b2 * 1117)) (.int .i64 ((P : Int) * 29)) = some (.int .i64 (b1 * 131 + b2 * 1117 + (P : Int) * 29)) := by rw [bin_add, u7]
        have f8 : binP Tryd.prog .quo 3 (.int .i64 (P : Int)) (.int .i64 (bs.length : Int)) = some (.int .i64 q) := by rw [hquo, u8]
        have f9 : binP Tryd.prog .mul 3 (.int .i64 q) (.int .i64 53) = some (.int .i64 (q * 53)) := by rw [bin_mul, u9]
        have f10 : binP Tryd.prog .add 3 (.int .i64 (b1 * 131 + b2 * 1117 + (P : Int) * 29)) (.int .i64 (q * 53)) = some (.int .i64 X) := by rw [bin_add, ← hX, u10]
        have f11 : binP Tryd.prog .quo 3 (.int .i64 X) (.int .i64 64) = some (.int .i64 Y) := by rw [hquoX, u11]
        clear hX hY hZ u1 u2 u3 u4 u5 u6 u7 u8 u9 u10 u11 hq' hquo hquoX hrem1 hrem2
        unfold spec_l20Rd_pick.main
        refine bd ptr_ptr (bd (fa1 _ _) (bd hld (bd f_add (bd ptr_ptr (bd (fa1 _ _) (bd hst (bd f_lss ?_)))))))
        refine bd (want_bool (x := false) (y := false)) (bd (v := (PV.ptr id 0, h7)) rfl ?_)
        refine bd (want_bool (x := false) (y := false)) (bd (v := (PV.ptr id 0, h7)) rfl ?_)
        refine bd (want_bool (x := false) (y := false)) (bd (v := (PV.ptr id (0 + 0), h7)) (congrArg (pv h7) (fa0 id 0)) ?_)
        refine bd (want_bool (x := false) (y := false)) (bd (v := (bp, h7)) (congrArg (pv h7) hl0) ?_)
        refine bd (want_bool (x := false) (y := false)) (bd (v := (PV.int .i64 (bs.length : Int), h7)) (congrArg (pv h7) hlen) ?_)
        refine bd (want_bool (x := false) (y := false)) (bd (v := (PV.bool false, h7)) (congrArg (pv h7) f_eql) ?_)
        refine bd (v := PV.bool false) rfl (cdF ?_)
        refine bd ptr_ptr (bd (fa1 _ _) (bd hl1 (bd f_sub (bd ptr_ptr (bd (fa0 _ _) (bd hl0 (bd hlen (bd f_lt (cdF ?_)))))))))
        refine bd ptr_ptr (bd (fa0 _ _) (bd hl0 (bd ptr_ptr (bd (fa0 _ _) (bd hl0 (bd hlen (bd f_rem1 (bd ha1 (bd hla1 (bd f_conv1 (bd f1 ?_)))))))))))
        refine bd ptr_ptr (bd (fa0 _ _) (bd hl0 (bd f2 (bd f3 (bd ptr_ptr (bd (fa0 _ _) (bd hl0 (bd hlen (bd f_rem2 (bd ha2 (bd hla2 (bd f_conv2 (bd f4 ?_)))))))))))))
        refine bd f5 (bd f6 (bd f7 (bd ptr_ptr (bd (fa0 _ _) (bd hl0 (bd hlen (bd f8 (bd f9 (bd f10 (bd f11 (bd hxor (bd hremZ (bd res_int rfl)))))))))))))

theorem odd_calls {h : PHeap} {id m : Nat} (N : Nat) (hN : 2 ≤ N) (k : Int) (hr : Rd h id m) (hm : m ≤ 1000000) (hk : k ≤ 1000000) (hk0 : 1 ≤ k) :
    ∃ (b : Bool) (h' : PHeap), CL g lf N fn_spec_l20Rd_odd [.ptr id 0, .int .i64 k] h = some (.bool b, h') ∧ Rd h' id (m + 1) ∧ Only id (id + 1) h h' := by
  obtain ⟨n, rfl⟩ : ∃ n, N = n + 1 := ⟨N - 1, by omega⟩
  rw [spec_l20Rd_odd.call_eq]
  obtain ⟨v, h', e, hr', ho, _⟩ := pick_calls g lf n (by omega) k hr hm hk
  have hpos : (0 : Int) < k := by omega
  have w1 : IntKind.i64.wrap (k - 1) = k - 1 := wr (by omega)
  refine ⟨v == k - 1, h', ?_, hr', ho⟩
  simp [spec_l20Rd_odd.main, hpos, e, w1]

end Go.Proofs.YtiflfnlpkhghpaaDoor
