/- Promise 7 and the exact law on it: how far cells are from each other. -/
import Derived.Test.YtiflfnlpkhghpaaDoorN3
namespace Go.Proofs.YtiflfnlpkhghpaaDoor
open Go Go.Ip G

/-! ### sets of cells as numbers -/
theorem f_shr (a i : Nat) (hi : i ≤ 60) : binP Tryd.prog .shr 3 (.int .i64 (a : Int)) (.int .i64 (i : Int)) = some (.int .i64 ((a >>> i : Nat) : Int)) := by
  have h0 : ¬ ((i : Int) < 0) := by omega
  have hm : min ((i : Int).toNat) (IntKind.i64.bits) = i := by
    have : IntKind.i64.bits = 64 := rfl
    rw [this]; omega
  simp only [binP, shI, if_neg h0, hm]
  congr 2
  rw [Nat.shiftRight_eq_div_pow]
  have : ((2 : Int) ^ i) = ((2 ^ i : Nat) : Int) := by simp
  rw [this, ← Int.ofNat_fdiv]

theorem f_shl (i : Nat) (hi : i ≤ 30) : binP Tryd.prog .shl 3 (.int .i64 1) (.int .i64 (i : Int)) = some (.int .i64 ((1 <<< i : Nat) : Int)) := by
  have h0 : ¬ ((i : Int) < 0) := by omega
  have hm : min ((i : Int).toNat) (IntKind.i64.bits) = i := by
    have : IntKind.i64.bits = 64 := rfl
    rw [this]; omega
  simp only [binP, shI, if_neg h0, hm]
  congr 2
  rw [Nat.one_shiftLeft]
  have : ((2 : Int) ^ i) = ((2 ^ i : Nat) : Int) := by simp
  rw [Int.one_mul, this]
  have hle : 2 ^ i ≤ 2 ^ 30 := Nat.pow_le_pow_right (by decide) hi
  obtain ⟨z, hz⟩ : ∃ z : Nat, z = 2 ^ i := ⟨_, rfl⟩
  rw [← hz] at hle ⊢
  exact wr (by omega)

theorem natEq (y k : Nat) : ((y : Int) == (k : Int)) = decide (y = k) := by rw [Bool.eq_iff_iff, beq_iff_eq, decide_eq_true_iff, Int.ofNat_inj]

theorem f_and {a b : Nat} (ha : a < 2 ^ 62) (hb : b < 2 ^ 62) : binP Tryd.prog .and 3 (.int .i64 (a : Int)) (.int .i64 (b : Int)) = some (.int .i64 ((a &&& b : Nat) : Int)) := by
  have hz : a &&& b < 2 ^ 62 := Nat.and_lt_two_pow a hb
  have e : (BitVec.ofInt IntKind.i64.bits (a : Int) &&& BitVec.ofInt IntKind.i64.bits (b : Int)).toNat = a &&& b := by
    have hbits : IntKind.i64.bits = 64 := rfl
    rw [BitVec.toNat_and, BitVec.toNat_ofInt, BitVec.toNat_ofInt, hbits]
    congr 1 <;> omega
  have : binP Tryd.prog .and 3 (.int .i64 (a : Int)) (.int .i64 (b : Int)) = some (.int .i64 (IntKind.i64.wrap ((BitVec.ofInt IntKind.i64.bits (a : Int) &&& BitVec.ofInt IntKind.i64.bits (b : Int)).toNat : Int))) := by simp only [binP, binI, if_true]
  rw [this, e, wr (by omega)]

theorem f_or {a b : Nat} (ha : a < 2 ^ 62) (hb : b < 2 ^ 62) : binP Tryd.prog .or 3 (.int .i64 (a : Int)) (.int .i64 (b : Int)) = some (.int .i64 ((a ||| b : Nat) : Int)) := by
  have hz : a ||| b < 2 ^ 62 := Nat.or_lt_two_pow ha hb
  have e : (BitVec.ofInt IntKind.i64.bits (a : Int) ||| BitVec.ofInt IntKind.i64.bits (b : Int)).toNat = a ||| b := by
    have hbits : IntKind.i64.bits = 64 := rfl
    rw [BitVec.toNat_or, BitVec.toNat_ofInt, BitVec.toNat_ofInt, hbits]
    congr 1 <;> omega
  have : binP Tryd.prog .or 3 (.int .i64 (a : Int)) (.int .i64 (b : Int)) = some (.int .i64 (IntKind.i64.wrap ((BitVec.ofInt IntKind.i64.bits (a : Int) ||| BitVec.ofInt IntKind.i64.bits (b : Int)).toNat : Int))) := by simp only [binP, binI, if_true]
  rw [this, e, wr (by omega)]

def orAll (w : Nat) : List Int → Nat
  | [] => w
  | e :: l => orAll (w ||| (1 <<< e.toNat)) l
def wideFrom (R C S : Nat) : Nat → Nat → Nat → Nat
  | 0, _, w => w
  | m + 1, i, w => wideFrom R C S m (i + 1) (if (S >>> i) &&& 1 = 0 then w else orAll w (nearN R C i))
def wideN (R C S : Nat) : Nat := wideFrom R C S (R * C) 0 S
def farFrom (R C B : Nat) : Nat → Nat → Nat → Int
  | 0, _, _ => -1
  | m + 1, i, S => if (S >>> B) &&& 1 = 1 then (i : Int) else farFrom R C B m (i + 1) (wideN R C S)
def farN (R C A B : Nat) : Int := farFrom R C B (R * C) 0 (1 <<< A)

theorem shl_lt {i : Nat} (hi : i < 9) : 1 <<< i < 2 ^ 9 := by
  rw [Nat.one_shiftLeft]; exact Nat.pow_lt_pow_right (by decide) hi

theorem orAll_lt : ∀ (L : List Int) (w : Nat), (∀ e ∈ L, 0 ≤ e ∧ e < 9) → w < 2 ^ 9 → orAll w L < 2 ^ 9
  | [], w, _, hw => hw
  | e :: l, w, h, hw => by
    have he := h e (by simp)
    exact orAll_lt l _ (fun x hx => h x (by simp [hx])) (Nat.or_lt_two_pow hw (shl_lt (by omega)))

theorem near_in {R C K : Nat} (h1 : 1 ≤ R) (h2 : R ≤ 4) (h3 : 1 ≤ C) (h4 : C ≤ 4) (h9 : R * C ≤ 9) (hK : K < R * C) : ∀ e ∈ nearN R C K, 0 ≤ e ∧ e < ((R * C : Nat) : Int) := by
  intro e he
  have hok := near_ok h1 h2 h3 h4 h9 hK
  unfold nearOk at hok
  simp only [Bool.and_eq_true, decide_eq_true_eq] at hok
  have hall := List.all_eq_true.1 hok.1.1 e he
  simp only [Bool.and_eq_true, decide_eq_true_eq] at hall
  exact hall.1.1.1

theorem wideFrom_lt {R C S : Nat} (h1 : 1 ≤ R) (h2 : R ≤ 4) (h3 : 1 ≤ C) (h4 : C ≤ 4) (h9 : R * C ≤ 9) : ∀ (m i w : Nat), i + m = R * C → w < 2 ^ 9 → wideFrom R C S m i w < 2 ^ 9
  | 0, _, _, _, hw => hw
  | m + 1, i, w, him, hw => by
    rw [wideFrom]
    refine wideFrom_lt h1 h2 h3 h4 h9 m (i + 1) _ (by omega) ?_
    split
    · exact hw
    · exact orAll_lt _ _ (fun e he => by have := near_in h1 h2 h3 h4 h9 (show i < R * C by omega) e he; omega) hw

/-! ### what the model says -/
def farS (C A B : Nat) : Int :=
  let d := ((B / C : Nat) : Int) - ((A / C : Nat) : Int)
  let x := ((B % C : Nat) : Int) - ((A % C : Nat) : Int)
  if d < 0 then (if 0 ≤ -x then -d + -x else (if x > -d then x else -d)) else (if 0 ≤ x then d + x else (if -x > d then -x else d))

def leastFrom (C B : Nat) (x : Int) : List Int → Int
  | [] => x
  | e :: l => leastFrom C B (if farS C e.toNat B < x then farS C e.toNat B else x) l

def farOk (R C A B : Nat) : Bool :=
  decide (farN R C A B = farS C A B) && decide (0 ≤ farS C A B ∧ farS C A B ≤ 20) && decide (farS C B A = farS C A B) &&
    ((nearN R C A).all fun e => decide (farS C e.toNat B ≤ farS C A B + 1 ∧ farS C A B - 1 ≤ farS C e.toNat B)) &&
    (decide (farS C A B = 0) == decide (A = B)) && (decide (farS C A B = 1) == decide ((B : Int) ∈ nearN R C A)) &&
    (decide (farS C A B = 0) || decide (leastFrom C B 100 (nearN R C A) = farS C A B - 1))

theorem far_all : ((List.range 5).all fun R => (List.range 5).all fun C => (List.range 9).all fun A => (List.range 9).all fun B => !(decide (1 ≤ R ∧ 1 ≤ C ∧ R * C ≤ 9 ∧ A < R * C ∧ B < R * C)) || farOk R C A B) = true := by kernel_rfl

theorem far_ok {R C A B : Nat} (h1 : 1 ≤ R) (h2 : R ≤ 4) (h3 : 1 ≤ C) (h4 : C ≤ 4) (h9 : R * C ≤ 9) (hA : A < R * C) (hB : B < R * C) : farOk R C A B = true := by
  have := List.all_eq_true.1 far_all R (by rw [List.mem_range]; omega)
  have := List.all_eq_true.1 this C (by rw [List.mem_range]; omega)
  have := List.all_eq_true.1 this A (by rw [List.mem_range]; omega)
  have := List.all_eq_true.1 this B (by rw [List.mem_range]; omega)
  rwa [decide_eq_true ⟨h1, h3, h9, hA, hB⟩, Bool.not_true, Bool.false_or] at this

variable (g : Nat → PV) (lf n : Nat)

/-! ### the program -/
theorem wide_inner {L : List Int} {p : PV} {h : PHeap} (hp : IntSl .i64 h p L) (hL : ∀ e ∈ L, 0 ≤ e ∧ e < 9) (hl : L.length ≤ 10) (R C S : PV) (M : PV) (i : Nat) (hi : i ≤ 10) (K : PX → St → Res) : ∀ (m j fuel w : Nat), j + m = L.length → m < fuel → w < 2 ^ 9 →
    loopK (ev ((env g lf n).cx Tryd.prog impl_withNear.kl) impl_withNear.lp1) fuel (impl_withNear.st1 R C S (.int .i64 (w : Int)) M (.int .i64 (i : Int)) p (.int .i64 (L.length : Int)) (.int .i64 (j : Int)) h) (impl_withNear.K1 (env g lf n) K) =
      K .normal (impl_withNear.st0 R C S (.int .i64 (orAll w (L.drop j) : Int)) M (.int .i64 ((i + 1 : Nat) : Int)) h)
  | 0, j, fuel, w, hjm, hf, hw => by
    obtain ⟨f, rfl⟩ : ∃ f, fuel = f + 1 := ⟨fuel - 1, by omega⟩
    rw [loopK_succ, impl_withNear.body1_eq]
    have f1 : binP Tryd.prog .lss 3 (.int .i64 (j : Int)) (.int .i64 (L.length : Int)) = some (.bool false) := by rw [bin_lss, decide_eq_false (by omega)]
    have f2 : binP Tryd.prog .add 3 (.int .i64 (i : Int)) (.int .i64 1) = some (.int .i64 ((i + 1 : Nat) : Int)) := by rw [bin_add, nx (by omega)]
    have hd : L.drop j = [] := List.drop_eq_nil_of_le (by omega)
    unfold impl_withNear.body1
    refine bd f1 (cdF ?_)
    rw [kLoop_exit, impl_withNear.after1_se2_0_1_2_7_14_15_26_27_28_29, hd]
    exact bd f2 rfl
  | m + 1, j, fuel, w, hjm, hf, hw => by
    obtain ⟨f, rfl⟩ : ∃ f, fuel = f + 1 := ⟨fuel - 1, by omega⟩
    have hj : j < L.length := by omega
    obtain ⟨a, ha, hla⟩ := hp.at' hj
    have he := hL _ (List.getElem_mem hj)
    obtain ⟨E, hE⟩ := Int.eq_ofNat_of_zero_le he.1
    rw [hE] at hla
    have hE9 : E < 9 := by omega
    have ih := wide_inner hp hL hl R C S M i hi K m (j + 1) f (w ||| (1 <<< E)) (by omega) (by omega) (Nat.or_lt_two_pow hw (shl_lt hE9))
    have f1 : binP Tryd.prog .lss 3 (.int .i64 (j : Int)) (.int .i64 (L.length : Int)) = some (.bool true) := by rw [bin_lss, decide_eq_true (by omega)]
    have f2 := f_shl E (by omega)
    have f3 := f_or (a := w) (b := 1 <<< E) (by omega) (by have := shl_lt hE9; omega)
    have f4 : binP Tryd.prog .add 3 (.int .i64 (j : Int)) (.int .i64 1) = some (.int .i64 ((j + 1 : Nat) : Int)) := by rw [bin_add, nx (by omega)]
    have hdx : L.drop j = L[j] :: L.drop (j + 1) := List.drop_eq_getElem_cons hj
    rw [loopK_succ, impl_withNear.body1_eq, hdx, orAll, hE, show ((E : Int).toNat) = E from rfl]
    unfold impl_withNear.body1
    exact bd f1 (cdT (bd ha (bd hla (bd f2 (bd f3 (bd f4 ih))))))

theorem wide_loop {R C S : Nat} (h1 : 1 ≤ R) (h2 : R ≤ 4) (h3 : 1 ≤ C) (h4 : C ≤ 4) (h9 : R * C ≤ 9) (hS : S < 2 ^ 9) (hn : 4 ≤ n) (hlf : 20 < lf) : ∀ (m i fuel w : Nat) (h : PHeap), i + m = R * C → m < fuel → w < 2 ^ 9 → Tab g h →
    ∃ h', loopK (ev ((env g lf n).cx Tryd.prog impl_withNear.kl) impl_withNear.lp0) fuel (impl_withNear.st0 (.int .i64 (R : Int)) (.int .i64 (C : Int)) (.int .i64 (S : Int)) (.int .i64 (w : Int)) (.int .i64 ((R * C : Nat) : Int)) (.int .i64 (i : Int)) h) (impl_withNear.K0 (env g lf n) (kTop Tryd.prog Tryd.f66)) = some (.int .i64 (wideFrom R C S m i w : Int), h') ∧ Keep h.length h h'
  | 0, i, fuel, w, h, him, hf, hw, ht => by
    obtain ⟨f, rfl⟩ : ∃ f, fuel = f + 1 := ⟨fuel - 1, by omega⟩
    refine ⟨h, ?_, Keep.refl _ _⟩
    rw [loopK_succ, impl_withNear.body0_eq]
    have f1 : binP Tryd.prog .lss 3 (.int .i64 (i : Int)) (.int .i64 ((R * C : Nat) : Int)) = some (.bool false) := by rw [bin_lss, decide_eq_false (by omega)]
    unfold impl_withNear.body0
    refine bd f1 (cdF ?_)
    rw [kLoop_exit, impl_withNear.after0_se0_0_1_2_7_14_15_16]
    exact bd res_int rfl
  | m + 1, i, fuel, w, h, him, hf, hw, ht => by
    obtain ⟨f, rfl⟩ : ∃ f, fuel = f + 1 := ⟨fuel - 1, by omega⟩
    have f1 : binP Tryd.prog .lss 3 (.int .i64 (i : Int)) (.int .i64 ((R * C : Nat) : Int)) = some (.bool true) := by rw [bin_lss, decide_eq_true (by omega)]
    have f2 := f_shr S i (by omega)
    have hsh : S >>> i < 2 ^ 62 := by
      have : S >>> i ≤ S := by rw [Nat.shiftRight_eq_div_pow]; exact Nat.div_le_self _ _
      omega
    have f3 := f_and (a := S >>> i) (b := 1) hsh (by decide)
    have f4 : binP Tryd.prog .eql 3 (.int .i64 ((S >>> i &&& 1 : Nat) : Int)) (.int .i64 0) = some (.bool (decide (S >>> i &&& 1 = 0))) := by
      rw [bin_eql]; exact congrArg (fun z => some (PV.bool z)) (natEq _ 0)
    have f5 : binP Tryd.prog .add 3 (.int .i64 (i : Int)) (.int .i64 1) = some (.int .i64 ((i + 1 : Nat) : Int)) := by rw [bin_add, nx (by omega)]
    rw [wideFrom]
    by_cases hb : S >>> i &&& 1 = 0
    · rw [if_pos hb]
      rw [decide_eq_true hb] at f4
      obtain ⟨h', ih, k⟩ := wide_loop h1 h2 h3 h4 h9 hS hn hlf m (i + 1) f w h (by omega) (by omega) hw ht
      refine ⟨h', ?_, k⟩
      rw [loopK_succ, impl_withNear.body0_eq]
      unfold impl_withNear.body0
      exact bd f1 (cdT (bd f2 (bd f3 (bd f4 (cdT (bd f5 ih))))))
    · rw [if_neg hb]
      rw [decide_eq_false hb] at f4
      obtain ⟨q', h1', eN, oN, kN⟩ := nearCells_calls g lf n hn hlf ht (R : Int) (C : Int) (i : Int)
      rw [nearL_cell (⟨rfl, rfl, rfl, h1, h2, h3, h4, h9, by omega⟩ : CellOf (R : Int) (C : Int) (i : Int) R C i)] at oN
      have hl := nearN_length R C i
      have hin : ∀ e ∈ nearN R C i, 0 ≤ e ∧ e < 9 := fun e he => by have := near_in h1 h2 h3 h4 h9 (show i < R * C by omega) e he; omega
      obtain ⟨h', ih, k⟩ := wide_loop h1 h2 h3 h4 h9 hS hn hlf m (i + 1) f (orAll w (nearN R C i)) h1' (by omega) (by omega) (orAll_lt _ _ hin hw) (ht.keep kN)
      have inner := wide_inner g lf n oN.int hin (by omega) (.int .i64 (R : Int)) (.int .i64 (C : Int)) (.int .i64 (S : Int)) (.int .i64 ((R * C : Nat) : Int)) i (by omega) (kLoop (ev ((env g lf n).cx Tryd.prog impl_withNear.kl) impl_withNear.lp0) f (impl_withNear.K0 (env g lf n) (kTop Tryd.prog Tryd.f66))) (nearN R C i).length 0 lf w (by omega) (by omega) hw
      rw [List.drop_zero] at inner
      refine ⟨h', ?_, kN.trans (k.mono kN.1)⟩
      rw [loopK_succ, impl_withNear.body0_eq]
      unfold impl_withNear.body0
      exact bd f1 (cdT (bd f2 (bd f3 (bd f4 (cdF (bd eN (bd oN.int.len' (inner.trans ih))))))))

theorem withNear_calls {R C S : Nat} (h1 : 1 ≤ R) (h2 : R ≤ 4) (h3 : 1 ≤ C) (h4 : C ≤ 4) (h9 : R * C ≤ 9) (hS : S < 2 ^ 9) (N : Nat) (hN : 5 ≤ N) (hlf : 20 < lf) {h : PHeap} (ht : Tab g h) :
    ∃ h', CL g lf N fn_impl_withNear [.int .i64 (R : Int), .int .i64 (C : Int), .int .i64 (S : Int)] h = some (.int .i64 (wideN R C S : Int), h') ∧ Keep h.length h h' := by
  obtain ⟨n, rfl⟩ : ∃ n, N = n + 1 := ⟨N - 1, by omega⟩
  rw [impl_withNear.call_eq]
  obtain ⟨h', e, k⟩ := wide_loop g lf n h1 h2 h3 h4 h9 hS (by omega) hlf (R * C) 0 lf S h (by omega) (by omega) hS ht
  refine ⟨h', ?_, k⟩
  unfold impl_withNear.main
  exact bd (f_mul R C (by omega)) e

def farL (r c a b : Int) : Int := if (cellB r c a && cellB r c b) = true then farS c.toNat a.toNat b.toNat else -1

theorem far_eq {R C A B : Nat} (h1 : 1 ≤ R) (h2 : R ≤ 4) (h3 : 1 ≤ C) (h4 : C ≤ 4) (h9 : R * C ≤ 9) (hA : A < R * C) (hB : B < R * C) : farN R C A B = farS C A B := by
  have := far_ok h1 h2 h3 h4 h9 hA hB
  unfold farOk at this
  simp only [Bool.and_eq_true, decide_eq_true_eq] at this
  exact this.1.1.1.1.1.1

theorem f_sub (a b : Int) (h : -1000 ≤ a - b ∧ a - b ≤ 1000) : binP Tryd.prog .sub 3 (.int .i64 a) (.int .i64 b) = some (.int .i64 (a - b)) := by rw [bin_sub, wr (by omega)]
theorem f_addI (a b : Int) (h : -1000 ≤ a + b ∧ a + b ≤ 1000) : binP Tryd.prog .add 3 (.int .i64 a) (.int .i64 b) = some (.int .i64 (a + b)) := by rw [bin_add, wr (by omega)]
theorem f_neg (a : Int) (h : -1000 ≤ a ∧ a ≤ 1000) : unP .neg (.int .i64 a) = some (.int .i64 (-a)) := by rw [un_neg, wr (by omega), show 0 - a = -a by omega]

end Go.Proofs.YtiflfnlpkhghpaaDoor
