/- Texts of this seat, in their order, put together by program. -/
import Derived.Test.YtmhflbomploidaaDoorK9
set_option linter.unusedSimpArgs false
set_option linter.unusedVariables false
set_option linter.unusedSectionVars false
/- Promise 7 and the exact law on it: how far cells are from each other. -/
set_option maxRecDepth 20000
namespace Go.Proofs.YtmhflbomploidaaDoor
open Go Go.Ip G

/-! ### sets of cells as numbers -/
theorem f_shr (a i : Nat) (hi : i ≤ 60) : binP Tryd.prog .shr 3 (.int .i64 (a : Int)) (.int .i64 (i : Int)) = some (.int .i64 ((a >>> i : Nat) : Int)) := by
  have h0 : ¬ ((i : Int) < 0) := by omega
  have hm : min ((i : Int).toNat) (IntKind.i64.bits) = i := by
    have : IntKind.i64.bits = 64 := rfl
    rw [this]; omega
  simp only [binP, shI, if_neg h0, hm]
  congr 2
  rw [Nat.shiftRight_eq_div_pow]
  have : ((2 : Int) ^ i) = ((2 ^ i : Nat) : Int) := by simp
  rw [this, ← Int.ofNat_fdiv]

theorem f_shl (i : Nat) (hi : i ≤ 30) : binP Tryd.prog .shl 3 (.int .i64 1) (.int .i64 (i : Int)) = some (.int .i64 ((1 <<< i : Nat) : Int)) := by
  have h0 : ¬ ((i : Int) < 0) := by omega
  have hm : min ((i : Int).toNat) (IntKind.i64.bits) = i := by
    have : IntKind.i64.bits = 64 := rfl
    rw [this]; omega
  simp only [binP, shI, if_neg h0, hm]
  congr 2
  rw [Nat.one_shiftLeft]
  have : ((2 : Int) ^ i) = ((2 ^ i : Nat) : Int) := by simp
  rw [Int.one_mul, this]
  have hle : 2 ^ i ≤ 2 ^ 30 := Nat.pow_le_pow_right (by decide) hi
  obtain ⟨z, hz⟩ : ∃ z : Nat, z = 2 ^ i := ⟨_, rfl⟩
  rw [← hz] at hle ⊢
  exact wr (by omega)

theorem natEq (y k : Nat) : ((y : Int) == (k : Int)) = decide (y = k) := by rw [Bool.eq_iff_iff, beq_iff_eq, decide_eq_true_iff, Int.ofNat_inj]

theorem f_and {a b : Nat} (ha : a < 2 ^ 62) (hb : b < 2 ^ 62) : binP Tryd.prog .and 3 (.int .i64 (a : Int)) (.int .i64 (b : Int)) = some (.int .i64 ((a &&& b : Nat) : Int)) := by
  have hz : a &&& b < 2 ^ 62 := Nat.and_lt_two_pow a hb
  have e : (BitVec.ofInt IntKind.i64.bits (a : Int) &&& BitVec.ofInt IntKind.i64.bits (b : Int)).toNat = a &&& b := by
    have hbits : IntKind.i64.bits = 64 := rfl
    rw [BitVec.toNat_and, BitVec.toNat_ofInt, BitVec.toNat_ofInt, hbits]
    congr 1 <;> omega
  have : binP Tryd.prog .and 3 (.int .i64 (a : Int)) (.int .i64 (b : Int)) = some (.int .i64 (IntKind.i64.wrap ((BitVec.ofInt IntKind.i64.bits (a : Int) &&& BitVec.ofInt IntKind.i64.bits (b : Int)).toNat : Int))) := by simp only [binP, binI, if_true]
  rw [this, e, wr (by omega)]

theorem f_or {a b : Nat} (ha : a < 2 ^ 62) (hb : b < 2 ^ 62) : binP Tryd.prog .or 3 (.int .i64 (a : Int)) (.int .i64 (b : Int)) = some (.int .i64 ((a ||| b : Nat) : Int)) := by
  have hz : a ||| b < 2 ^ 62 := Nat.or_lt_two_pow ha hb
  have e : (BitVec.ofInt IntKind.i64.bits (a : Int) ||| BitVec.ofInt IntKind.i64.bits (b : Int)).toNat = a ||| b := by
    have hbits : IntKind.i64.bits = 64 := rfl
    rw [BitVec.toNat_or, BitVec.toNat_ofInt, BitVec.toNat_ofInt, hbits]
    congr 1 <;> omega
  have : binP Tryd.prog .or 3 (.int .i64 (a : Int)) (.int .i64 (b : Int)) = some (.int .i64 (IntKind.i64.wrap ((BitVec.ofInt IntKind.i64.bits (a : Int) ||| BitVec.ofInt IntKind.i64.bits (b : Int)).toNat : Int))) := by simp only [binP, binI, if_true]
  rw [this, e, wr (by omega)]

def orAll (w : Nat) : List Int → Nat
  | [] => w
  | e :: l => orAll (w ||| (1 <<< e.toNat)) l
def wideFrom (R C S : Nat) : Nat → Nat → Nat → Nat
  | 0, _, w => w
  | m + 1, i, w => wideFrom R C S m (i + 1) (if (S >>> i) &&& 1 = 0 then w else orAll w (nearN R C i))
def wideN (R C S : Nat) : Nat := wideFrom R C S (R * C) 0 S
theorem shl_lt {i : Nat} (hi : i < 9) : 1 <<< i < 2 ^ 9 := by
  rw [Nat.one_shiftLeft]; exact Nat.pow_lt_pow_right (by decide) hi

theorem orAll_lt : ∀ (L : List Int) (w : Nat), (∀ e ∈ L, 0 ≤ e ∧ e < 9) → w < 2 ^ 9 → orAll w L < 2 ^ 9
  | [], w, _, hw => hw
  | e :: l, w, h, hw => by
    have he := h e (by simp)
    exact orAll_lt l _ (fun x hx => h x (by simp [hx])) (Nat.or_lt_two_pow hw (shl_lt (by omega)))

theorem near_in {R C K : Nat} (h1 : 1 ≤ R) (h2 : R ≤ 4) (h3 : 1 ≤ C) (h4 : C ≤ 4) (h9 : R * C ≤ 9) (hK : K < R * C) : ∀ e ∈ nearN R C K, 0 ≤ e ∧ e < ((R * C : Nat) : Int) := by
  intro e he
  have hok := near_ok h1 h2 h3 h4 h9 hK
  unfold nearOk at hok
  simp only [Bool.and_eq_true, decide_eq_true_eq] at hok
  have hall := List.all_eq_true.1 hok.1.1 e he
  simp only [Bool.and_eq_true, decide_eq_true_eq] at hall
  exact hall.1.1.1

theorem wideFrom_lt {R C S : Nat} (h1 : 1 ≤ R) (h2 : R ≤ 4) (h3 : 1 ≤ C) (h4 : C ≤ 4) (h9 : R * C ≤ 9) : ∀ (m i w : Nat), i + m = R * C → w < 2 ^ 9 → wideFrom R C S m i w < 2 ^ 9
  | 0, _, _, _, hw => hw
  | m + 1, i, w, him, hw => by
    rw [wideFrom]
    refine wideFrom_lt h1 h2 h3 h4 h9 m (i + 1) _ (by omega) ?_
    split
    · exact hw
    · exact orAll_lt _ _ (fun e he => by have := near_in h1 h2 h3 h4 h9 (show i < R * C by omega) e he; omega) hw

/-! ### what the model says -/
variable (g : Nat → PV) (lf n : Nat)

/-! ### the program -/
theorem wide_inner {L : List Int} {p : PV} {h : PHeap} (hp : IntSl .i64 h p L) (hL : ∀ e ∈ L, 0 ≤ e ∧ e < 9) (hl : L.length ≤ 10) (R C S : PV) (M : PV) (i : Nat) (hi : i ≤ 10) (K : PX → St → Res) : ∀ (m j fuel w : Nat), j + m = L.length → m < fuel → w < 2 ^ 9 →
    loopK (ev ((env g lf n).cx Tryd.prog impl_withNear.kl) impl_withNear.lp1) fuel (impl_withNear.st1 R C S (.int .i64 (w : Int)) M (.int .i64 (i : Int)) p (.int .i64 (L.length : Int)) (.int .i64 (j : Int)) h) (impl_withNear.K1 (env g lf n) K) =
      K .normal (impl_withNear.st0 R C S (.int .i64 (orAll w (L.drop j) : Int)) M (.int .i64 ((i + 1 : Nat) : Int)) h)
  | 0, j, fuel, w, hjm, hf, hw => by
    obtain ⟨f, rfl⟩ : ∃ f, fuel = f + 1 := ⟨fuel - 1, by omega⟩
    rw [loopK_succ, impl_withNear.body1_eq]
    have f1 : binP Tryd.prog .lss 3 (.int .i64 (j : Int)) (.int .i64 (L.length : Int)) = some (.bool false) := by rw [bin_lss, decide_eq_false (by omega)]
    have f2 : binP Tryd.prog .add 3 (.int .i64 (i : Int)) (.int .i64 1) = some (.int .i64 ((i + 1 : Nat) : Int)) := by rw [bin_add, nx (by omega)]
    have hd : L.drop j = [] := List.drop_eq_nil_of_le (by omega)
    unfold impl_withNear.body1
    refine bd f1 (cdF ?_)
    rw [kLoop_exit, impl_withNear.after1_se2_0_1_2_7_14_15_26_27_28_29, hd]
    exact bd f2 rfl
  | m + 1, j, fuel, w, hjm, hf, hw => by
    obtain ⟨f, rfl⟩ : ∃ f, fuel = f + 1 := ⟨fuel - 1, by omega⟩
    have hj : j < L.length := by omega
    obtain ⟨a, ha, hla⟩ := hp.at' hj
    have he := hL _ (List.getElem_mem hj)
    obtain ⟨E, hE⟩ := Int.eq_ofNat_of_zero_le he.1
    rw [hE] at hla
    have hE9 : E < 9 := by omega
    have ih := wide_inner hp hL hl R C S M i hi K m (j + 1) f (w ||| (1 <<< E)) (by omega) (by omega) (Nat.or_lt_two_pow hw (shl_lt hE9))
    have f1 : binP Tryd.prog .lss 3 (.int .i64 (j : Int)) (.int .i64 (L.length : Int)) = some (.bool true) := by rw [bin_lss, decide_eq_true (by omega)]
    have f2 := f_shl E (by omega)
    have f3 := f_or (a := w) (b := 1 <<< E) (by omega) (by have := shl_lt hE9; omega)
    have f4 : binP Tryd.prog .add 3 (.int .i64 (j : Int)) (.int .i64 1) = some (.int .i64 ((j + 1 : Nat) : Int)) := by rw [bin_add, nx (by omega)]
    have hdx : L.drop j = L[j] :: L.drop (j + 1) := List.drop_eq_getElem_cons hj
    rw [loopK_succ, impl_withNear.body1_eq, hdx, orAll, hE, show ((E : Int).toNat) = E from rfl]
    unfold impl_withNear.body1
    exact bd f1 (cdT (bd ha (bd hla (bd f2 (bd f3 (bd f4 ih))))))

theorem wide_loop {R C S : Nat} (h1 : 1 ≤ R) (h2 : R ≤ 4) (h3 : 1 ≤ C) (h4 : C ≤ 4) (h9 : R * C ≤ 9) (hS : S < 2 ^ 9) (hn : 4 ≤ n) (hlf : 20 < lf) : ∀ (m i fuel w : Nat) (h : PHeap), i + m = R * C → m < fuel → w < 2 ^ 9 → Tab g h →
    ∃ h', loopK (ev ((env g lf n).cx Tryd.prog impl_withNear.kl) impl_withNear.lp0) fuel (impl_withNear.st0 (.int .i64 (R : Int)) (.int .i64 (C : Int)) (.int .i64 (S : Int)) (.int .i64 (w : Int)) (.int .i64 ((R * C : Nat) : Int)) (.int .i64 (i : Int)) h) (impl_withNear.K0 (env g lf n) (kTop Tryd.prog Tryd.f74)) = some (.int .i64 (wideFrom R C S m i w : Int), h') ∧ Keep h.length h h'
  | 0, i, fuel, w, h, him, hf, hw, ht => by
    obtain ⟨f, rfl⟩ : ∃ f, fuel = f + 1 := ⟨fuel - 1, by omega⟩
    refine ⟨h, ?_, Keep.refl _ _⟩
    rw [loopK_succ, impl_withNear.body0_eq]
    have f1 : binP Tryd.prog .lss 3 (.int .i64 (i : Int)) (.int .i64 ((R * C : Nat) : Int)) = some (.bool false) := by rw [bin_lss, decide_eq_false (by omega)]
    unfold impl_withNear.body0
    refine bd f1 (cdF ?_)
    rw [kLoop_exit, impl_withNear.after0_se0_0_1_2_7_14_15_16]
    exact bd res_int rfl
  | m + 1, i, fuel, w, h, him, hf, hw, ht => by
    obtain ⟨f, rfl⟩ : ∃ f, fuel = f + 1 := ⟨fuel - 1, by omega⟩
    have f1 : binP Tryd.prog .lss 3 (.int .i64 (i : Int)) (.int .i64 ((R * C : Nat) : Int)) = some (.bool true) := by rw [bin_lss, decide_eq_true (by omega)]
    have f2 := f_shr S i (by omega)
    have hsh : S >>> i < 2 ^ 62 := by
      have : S >>> i ≤ S := by rw [Nat.shiftRight_eq_div_pow]; exact Nat.div_le_self _ _
      omega
    have f3 := f_and (a := S >>> i) (b := 1) hsh (by decide)
    have f4 : binP Tryd.prog .eql 3 (.int .i64 ((S >>> i &&& 1 : Nat) : Int)) (.int .i64 0) = some (.bool (decide (S >>> i &&& 1 = 0))) := by
      rw [bin_eql]; exact congrArg (fun z => some (PV.bool z)) (natEq _ 0)
    have f5 : binP Tryd.prog .add 3 (.int .i64 (i : Int)) (.int .i64 1) = some (.int .i64 ((i + 1 : Nat) : Int)) := by rw [bin_add, nx (by omega)]
    rw [wideFrom]
    by_cases hb : S >>> i &&& 1 = 0
    · rw [if_pos hb]
      rw [decide_eq_true hb] at f4
      obtain ⟨h', ih, k⟩ := wide_loop h1 h2 h3 h4 h9 hS hn hlf m (i + 1) f w h (by omega) (by omega) hw ht
      refine ⟨h', ?_, k⟩
      rw [loopK_succ, impl_withNear.body0_eq]
      unfold impl_withNear.body0
      exact bd f1 (cdT (bd f2 (bd f3 (bd f4 (cdT (bd f5 ih))))))
    · rw [if_neg hb]
      rw [decide_eq_false hb] at f4
      obtain ⟨q', h1', eN, oN, kN⟩ := nearCells_calls g lf n hn hlf ht (R : Int) (C : Int) (i : Int)
      rw [nearL_cell (⟨rfl, rfl, rfl, h1, h2, h3, h4, h9, by omega⟩ : CellOf (R : Int) (C : Int) (i : Int) R C i)] at oN
      have hl := nearN_length R C i
      have hin : ∀ e ∈ nearN R C i, 0 ≤ e ∧ e < 9 := fun e he => by have := near_in h1 h2 h3 h4 h9 (show i < R * C by omega) e he; omega
      obtain ⟨h', ih, k⟩ := wide_loop h1 h2 h3 h4 h9 hS hn hlf m (i + 1) f (orAll w (nearN R C i)) h1' (by omega) (by omega) (orAll_lt _ _ hin hw) (ht.keep kN)
      have inner := wide_inner g lf n oN.int hin (by omega) (.int .i64 (R : Int)) (.int .i64 (C : Int)) (.int .i64 (S : Int)) (.int .i64 ((R * C : Nat) : Int)) i (by omega) (kLoop (ev ((env g lf n).cx Tryd.prog impl_withNear.kl) impl_withNear.lp0) f (impl_withNear.K0 (env g lf n) (kTop Tryd.prog Tryd.f74))) (nearN R C i).length 0 lf w (by omega) (by omega) hw
      rw [List.drop_zero] at inner
      refine ⟨h', ?_, kN.trans (k.mono kN.1)⟩
      rw [loopK_succ, impl_withNear.body0_eq]
      unfold impl_withNear.body0
      exact bd f1 (cdT (bd f2 (bd f3 (bd f4 (cdF (bd eN (bd oN.int.len' (inner.trans ih))))))))

theorem withNear_calls {R C S : Nat} (h1 : 1 ≤ R) (h2 : R ≤ 4) (h3 : 1 ≤ C) (h4 : C ≤ 4) (h9 : R * C ≤ 9) (hS : S < 2 ^ 9) (N : Nat) (hN : 5 ≤ N) (hlf : 20 < lf) {h : PHeap} (ht : Tab g h) :
    ∃ h', CL g lf N fn_impl_withNear [.int .i64 (R : Int), .int .i64 (C : Int), .int .i64 (S : Int)] h = some (.int .i64 (wideN R C S : Int), h') ∧ Keep h.length h h' := by
  obtain ⟨n, rfl⟩ : ∃ n, N = n + 1 := ⟨N - 1, by omega⟩
  rw [impl_withNear.call_eq]
  obtain ⟨h', e, k⟩ := wide_loop g lf n h1 h2 h3 h4 h9 hS (by omega) hlf (R * C) 0 lf S h (by omega) (by omega) hS ht
  refine ⟨h', ?_, k⟩
  unfold impl_withNear.main
  exact bd (f_mul R C (by omega)) e

theorem f_sub (a b : Int) (h : -1000 ≤ a - b ∧ a - b ≤ 1000) : binP Tryd.prog .sub 3 (.int .i64 a) (.int .i64 b) = some (.int .i64 (a - b)) := by rw [bin_sub, wr (by omega)]
end Go.Proofs.YtmhflbomploidaaDoor

/- Sets of cells as bits: what grows, what is reached, and at what cost. No program text. -/
set_option maxRecDepth 20000
namespace Go.Proofs.YtmhflbomploidaaDoor

theorem bit_iff (x k : Nat) : x >>> k % 2 = 1 ↔ x.testBit k = true := by
  rw [Nat.testBit_eq_decide_div_mod_eq, Nat.shiftRight_eq_div_pow, decide_eq_true_iff]

/-- Cell j is beside cell k: the masks tell the neighbours of each cell. -/
def Adj (M : List Nat) (k j : Nat) : Prop := (M.getD k 0).testBit j = true

inductive Reach (M : List Nat) (set fr : Nat) : Nat → Prop
  | start {j} (h : fr.testBit j = true) (hs : set.testBit j = true) : Reach M set fr j
  | step {k j} (h : Reach M set fr k) (ha : Adj M k j) (hs : set.testBit j = true) : Reach M set fr j

theorem Reach.inSet {M : List Nat} {set fr j : Nat} (h : Reach M set fr j) : set.testBit j = true := by
  cases h <;> assumption

theorem Reach.mono {M : List Nat} {set fr set' fr' : Nat} (hs : ∀ j, set.testBit j = true → set'.testBit j = true) (hf : ∀ j, fr.testBit j = true → fr'.testBit j = true) {j : Nat} (h : Reach M set fr j) : Reach M set' fr' j := by
  induction h with
  | start h h' => exact .start (hf _ h) (hs _ h')
  | step _ ha h' ih => exact .step ih ha (hs _ h')

theorem Reach.trans {M : List Nat} {set fr fr' : Nat} (hf : ∀ j, fr'.testBit j = true → Reach M set fr j) {j : Nat} (h : Reach M set fr' j) : Reach M set fr j := by
  induction h with
  | start h _ => exact hf _ h
  | step _ ha h' ih => exact .step ih ha h'

theorem one_bit (k j : Nat) : (1 <<< k).testBit j = decide (j = k) := by
  rw [Nat.one_shiftLeft, Nat.testBit_two_pow]
  by_cases h : j = k
  · subst h; simp
  · simp [h]; exact fun e => h e.symm

/-- From one cell to another, and back. -/
theorem Reach.back {M : List Nat} (sym : ∀ k j, Adj M k j → Adj M j k) {set a b : Nat} (ha : set.testBit a = true) (h : Reach M set (1 <<< a) b) : Reach M set (1 <<< b) a := by
  induction h with
  | @start j h _ =>
    rw [one_bit] at h
    have : j = a := of_decide_eq_true h
    subst this
    exact .start (by rw [one_bit]; simp) ha
  | @step k j _ hk hj ih =>
    refine ih.trans fun i hi => ?_
    rw [one_bit] at hi
    have : i = k := of_decide_eq_true hi
    subst this
    rename_i hk'
    exact .step (.start (by rw [one_bit]; simp) hj) (sym _ _ hk) hk'.inSet

/-! ### growing -/
def stepFrom (set now : Nat) : Nat → List Nat → Nat → Nat
  | _, [], nx => nx
  | k, m :: ms, nx => stepFrom set now (k + 1) ms (if now >>> k % 2 = 1 then nx ||| (m &&& set) else nx)

theorem stepFrom_le (set now : Nat) : ∀ (ms : List Nat) (k nx : Nat), nx ≤ stepFrom set now k ms nx
  | [], _, _ => Nat.le_refl _
  | m :: ms, k, nx => by
    rw [stepFrom]
    refine Nat.le_trans ?_ (stepFrom_le set now ms (k + 1) _)
    split
    · exact Nat.left_le_or
    · exact Nat.le_refl _

theorem stepFrom_bit (set now : Nat) (j : Nat) : ∀ (ms : List Nat) (k nx : Nat), (stepFrom set now k ms nx).testBit j = true ↔ nx.testBit j = true ∨ ∃ i, now.testBit (k + i) = true ∧ (ms.getD i 0).testBit j = true ∧ set.testBit j = true
  | [], k, nx => by simp [stepFrom]
  | m :: ms, k, nx => by
    rw [stepFrom, stepFrom_bit set now j ms (k + 1)]
    have hsplit : (∃ i, now.testBit (k + i) = true ∧ ((m :: ms).getD i 0).testBit j = true ∧ set.testBit j = true) ↔ (now.testBit k = true ∧ m.testBit j = true ∧ set.testBit j = true) ∨ ∃ i, now.testBit (k + 1 + i) = true ∧ (ms.getD i 0).testBit j = true ∧ set.testBit j = true := by
      constructor
      · rintro ⟨i, h⟩
        cases i with
        | zero => exact .inl (by simpa using h)
        | succ i => exact .inr ⟨i, by rw [show k + 1 + i = k + (i + 1) by omega]; simpa using h⟩
      · rintro (h | ⟨i, h⟩)
        · exact ⟨0, by simpa using h⟩
        · exact ⟨i + 1, by rw [show k + (i + 1) = k + 1 + i by omega]; simpa using h⟩
    rw [hsplit]
    by_cases hb : now >>> k % 2 = 1
    · rw [if_pos hb, Nat.testBit_or, Nat.testBit_and]
      have hb' := (bit_iff now k).1 hb
      simp [hb', or_assoc]
    · rw [if_neg hb]
      have hb' : ¬ now.testBit k = true := fun h => hb ((bit_iff now k).2 h)
      simp [hb']

def growF (M : List Nat) (set : Nat) : Nat → Nat → Nat
  | 0, now => now
  | f + 1, now => if stepFrom set now 0 M now = now then now else growF M set f (stepFrom set now 0 M now)
def growN (M : List Nat) (set fr : Nat) : Nat := growF M set 600 (fr &&& set)

theorem sub_and {a b : Nat} (h : ∀ j, a.testBit j = true → b.testBit j = true) : a &&& b = a := by
  apply Nat.eq_of_testBit_eq
  intro j
  rw [Nat.testBit_and]
  cases e : a.testBit j with
  | false => rfl
  | true => rw [h j e]; rfl

theorem sub_le {a b : Nat} (h : ∀ j, a.testBit j = true → b.testBit j = true) : a ≤ b := by
  rw [← sub_and h]; exact Nat.and_le_right

theorem step_sub {M : List Nat} {set now : Nat} (h : ∀ j, now.testBit j = true → set.testBit j = true) : ∀ j, (stepFrom set now 0 M now).testBit j = true → set.testBit j = true := by
  intro j hj
  rcases (stepFrom_bit set now j M 0 now).1 hj with hj | ⟨_, _, _, hj⟩
  · exact h j hj
  · exact hj

theorem growF_fix {M : List Nat} {set : Nat} : ∀ (f now : Nat), (∀ j, now.testBit j = true → set.testBit j = true) → set < now + f → stepFrom set (growF M set f now) 0 M (growF M set f now) = growF M set f now ∧ (∀ j, now.testBit j = true → (growF M set f now).testBit j = true)
  | 0, now, hs, hf => by have := sub_le hs; omega
  | f + 1, now, hs, hf => by
    rw [growF]
    split
    · rename_i h; exact ⟨h, fun _ h => h⟩
    · rename_i h
      have hle := stepFrom_le set now M 0 now
      have ih := growF_fix (M := M) f (stepFrom set now 0 M now) (step_sub hs) (by omega)
      exact ⟨ih.1, fun j hj => ih.2 j ((stepFrom_bit set now j M 0 now).2 (.inl hj))⟩

theorem growF_reach {M : List Nat} {set fr : Nat} : ∀ (f now : Nat), (∀ j, now.testBit j = true → Reach M set fr j) → ∀ j, (growF M set f now).testBit j = true → Reach M set fr j
  | 0, now, hs, j, hj => hs j hj
  | f + 1, now, hs, j, hj => by
    rw [growF] at hj
    split at hj
    · exact hs j hj
    · refine growF_reach f _ (fun i hi => ?_) j hj
      rcases (stepFrom_bit set now i M 0 now).1 hi with hi | ⟨k, h1, h2, h3⟩
      · exact hs i hi
      · rw [Nat.zero_add] at h1
        exact .step (hs k h1) h2 h3

theorem grow_bit {M : List Nat} {set fr : Nat} (hset : set < 2 ^ 9) (j : Nat) : (growN M set fr).testBit j = true ↔ Reach M set fr j := by
  have hsub : ∀ j, (fr &&& set).testBit j = true → set.testBit j = true := fun j hj => by rw [Nat.testBit_and, Bool.and_eq_true] at hj; exact hj.2
  constructor
  · refine growF_reach 600 _ (fun i hi => ?_) j
    rw [Nat.testBit_and, Bool.and_eq_true] at hi
    exact .start hi.1 hi.2
  · obtain ⟨hfix, hin⟩ := growF_fix (M := M) 600 (fr &&& set) hsub (by omega)
    intro h
    induction h with
    | start h hs => exact hin _ (by rw [Nat.testBit_and, h, hs]; rfl)
    | @step k j _ ha hs ih =>
      unfold growN at ih ⊢
      rw [← hfix]
      exact (stepFrom_bit set _ j M 0 _).2 (.inr ⟨k, by rw [Nat.zero_add]; exact ih, ha, hs⟩)

theorem grow_lt {M : List Nat} {set fr : Nat} (hset : set < 2 ^ 9) : growN M set fr < 2 ^ 9 :=
  Nat.lt_of_le_of_lt (sub_le fun j hj => ((grow_bit hset j).1 hj).inSet) hset

/-! ### at what cost -/
/-- Cell j is reached from the edge over own cells and at most k free ones. -/
inductive Cost (M : List Nat) (edge own free : Nat) : Nat → Nat → Prop
  | ownEdge {k j} (h : edge.testBit j = true) (ho : own.testBit j = true) : Cost M edge own free k j
  | freeEdge {k j} (h : edge.testBit j = true) (hf : free.testBit j = true) : Cost M edge own free (k + 1) j
  | ownStep {k i j} (h : Cost M edge own free k i) (ha : Adj M i j) (ho : own.testBit j = true) : Cost M edge own free k j
  | freeStep {k i j} (h : Cost M edge own free k i) (ha : Adj M i j) (hf : free.testBit j = true) : Cost M edge own free (k + 1) j

theorem Cost.more {M : List Nat} {edge own free k j : Nat} (h : Cost M edge own free k j) : Cost M edge own free (k + 1) j := by
  induction h with
  | ownEdge h ho => exact .ownEdge h ho
  | freeEdge h hf => exact .freeEdge h hf
  | ownStep _ ha ho ih => exact .ownStep ih ha ho
  | freeStep _ ha hf ih => exact .freeStep ih ha hf

/-- Own cells more, free cells that are now own: no dearer. -/
theorem Cost.mono {M : List Nat} {edge own free own' free' : Nat} (ho : ∀ j, own.testBit j = true → own'.testBit j = true) (hf : ∀ j, free.testBit j = true → own'.testBit j = true ∨ free'.testBit j = true) {k j : Nat} (h : Cost M edge own free k j) : Cost M edge own' free' k j := by
  induction h with
  | ownEdge h h' => exact .ownEdge h (ho _ h')
  | freeEdge h h' =>
    rcases hf _ h' with h' | h'
    · exact .ownEdge h h'
    · exact .freeEdge h h'
  | ownStep _ ha h' ih => exact .ownStep ih ha (ho _ h')
  | freeStep _ ha h' ih =>
    rcases hf _ h' with h' | h'
    · exact (Cost.ownStep ih ha h').more
    · exact .freeStep ih ha h'

/-- What is dear by one more is so by some free cell: with that one own it is not. -/
theorem Cost.cell {M : List Nat} {edge own free k j : Nat} (h : Cost M edge own free (k + 1) j) :
    Cost M edge own free k j ∨ ∃ c, free.testBit c = true ∧ ∀ own' free', (∀ j, own.testBit j = true → own'.testBit j = true) → own'.testBit c = true → (∀ j, free.testBit j = true → own'.testBit j = true ∨ free'.testBit j = true) → Cost M edge own' free' k j := by
  generalize hk : k + 1 = k' at h
  induction h generalizing k with
  | ownEdge h h' => exact .inl (.ownEdge h h')
  | @freeEdge k0 j h h' => exact .inr ⟨j, h', fun own' free' _ hc _ => .ownEdge h hc⟩
  | ownStep _ ha h' ih =>
    rcases ih hk with ih | ⟨c, hc, ih⟩
    · exact .inl (.ownStep ih ha h')
    · exact .inr ⟨c, hc, fun own' free' ho hoc hf => .ownStep (ih own' free' ho hoc hf) ha (ho _ h')⟩
  | @freeStep k0 i j h0 ha h' _ =>
    obtain rfl : k = k0 := by omega
    exact .inr ⟨j, h', fun own' free' ho hoc hf => .ownStep (h0.mono ho hf) ha hoc⟩

end Go.Proofs.YtmhflbomploidaaDoor

/- Gaps: waves of cost tell the least number of free cells. No program text. -/
set_option maxRecDepth 20000
namespace Go.Proofs.YtmhflbomploidaaDoor

/-- The last side is reached at cost k. -/
def Hits (M : List Nat) (own free edge last k : Nat) : Prop := ∃ j, last.testBit j = true ∧ Cost M edge own free k j
def IsGap (M : List Nat) (own free edge last k : Nat) : Prop := Hits M own free edge last k ∧ ∀ i, i < k → ¬ Hits M own free edge last i

theorem IsGap.unique {M : List Nat} {own free edge last k k' : Nat} (h : IsGap M own free edge last k) (h' : IsGap M own free edge last k') : k = k' := by
  rcases Nat.lt_trichotomy k k' with hlt | e | hgt
  · exact absurd h.1 (h'.2 k hlt)
  · exact e
  · exact absurd h'.1 (h.2 k' hgt)

theorem and_zero {a b : Nat} : a &&& b = 0 ↔ ∀ j, a.testBit j = true → b.testBit j = true → False := by
  constructor
  · intro h j ha hb
    have := congrArg (fun x => x.testBit j) h
    simp [Nat.testBit_and, ha, hb] at this
  · intro h
    apply Nat.eq_of_testBit_eq
    intro j
    rw [Nat.testBit_and, Nat.zero_testBit]
    cases ha : a.testBit j with
    | false => rfl
    | true =>
      cases hb : b.testBit j with
      | false => rfl
      | true => exact (h j ha hb).elim

/-- What is taken away. -/
def without (x c : Nat) : Nat := x ^^^ (x &&& (1 <<< c))
theorem without_bit (x c j : Nat) : (without x c).testBit j = (x.testBit j && decide (j ≠ c)) := by
  unfold without
  rw [Nat.testBit_xor, Nat.testBit_and, one_bit]
  by_cases h : j = c
  · subst h; simp
  · simp [h]
theorem with_bit (x c j : Nat) : (x ||| (1 <<< c)).testBit j = (x.testBit j || decide (j = c)) := by rw [Nat.testBit_or, one_bit]

section
variable {M : List Nat} {own free edge last : Nat}

end

/-! ### how many -/
def pop (x : Nat) : Nat := (List.range 9).countP fun j => x.testBit j

theorem countP_lt {α : Type} {p q : α → Bool} : ∀ {l : List α} {c : α}, (∀ x ∈ l, q x = true → p x = true) → c ∈ l → p c = true → q c = false → l.countP q + 1 ≤ l.countP p
  | [], _, _, hc, _, _ => by simp at hc
  | x :: l, c, hpq, hc, hp, hq => by
    rw [List.countP_cons, List.countP_cons]
    have hle : l.countP q ≤ l.countP p := List.countP_mono_left fun y hy h => hpq y (by simp [hy]) h
    rcases List.mem_cons.1 hc with rfl | hc
    · simp [hp, hq]; omega
    · have ih := countP_lt (fun y hy h => hpq y (by simp [hy]) h) hc hp hq
      by_cases hqx : q x = true
      · have := hpq x (by simp) hqx
        simp [hqx, this]; omega
      · simp [hqx]; omega

theorem bit_small {x n j : Nat} (hx : x < 2 ^ n) (h : x.testBit j = true) : j < n := by
  rcases Nat.lt_or_ge j n with hlt | hge
  · exact hlt
  · rw [Nat.testBit_lt_two_pow (Nat.lt_of_lt_of_le hx (Nat.pow_le_pow_right (by decide) hge))] at h; cases h

/-! ### the waves -/
section
variable {M : List Nat} {own free edge last : Nat}

end

end Go.Proofs.YtmhflbomploidaaDoor

/- The model's sets of cells: masks, sides, the cells with a stone, growing, and whether sides are joined. -/
set_option maxRecDepth 20000
namespace Go.Proofs.YtmhflbomploidaaDoor
open Go Go.Ip G

def masksN (R C : Nat) : List Nat := (List.range (R * C)).map fun k => orAll 0 (nearN R C k)
def ints (M : List Nat) : List Int := M.map fun x : Nat => (x : Int)
theorem ints_length (M : List Nat) : (ints M).length = M.length := List.length_map ..
theorem ints_get {M : List Nat} {k : Nat} (hk : k < M.length) : (ints M)[k]'(by rw [ints_length]; exact hk) = ((M.getD k 0 : Nat) : Int) := by
  simp [ints, List.getD_eq_getElem?_getD, hk]

/-- A board, as numbers. -/
def BoardOf (R C : Nat) : Prop := 1 ≤ R ∧ R ≤ 4 ∧ 1 ≤ C ∧ C ≤ 4 ∧ R * C ≤ 9

theorem masksN_length (R C : Nat) : (masksN R C).length = R * C := by simp [masksN]
theorem masksN_lt {R C : Nat} (hb : BoardOf R C) : ∀ m ∈ masksN R C, m < 2 ^ 9 := by
  intro m hm
  obtain ⟨k, hk, rfl⟩ := List.mem_map.1 hm
  rw [List.mem_range] at hk
  obtain ⟨h1, h2, h3, h4, h9⟩ := hb
  exact orAll_lt _ _ (fun e he => by have := near_in h1 h2 h3 h4 h9 hk e he; omega) (by decide)

/-- An operation under a guard that holds nothing. -/
theorem gu {α : Type} {t : Bool} {β : Type} {x y : Option α} {f : α → Option β} {r : Option β} (hy : y.bind f = r) : ((wantV (.tup []) t).bind fun v => (bif v then x else y).bind f) = r := by
  simpa using hy

variable (g : Nat → PV) (lf n : Nat)

/-! ### masks -/
theorem mask_inner {L : List Int} {p : PV} {h : PHeap} (hp : IntSl .i64 h p L) (hL : ∀ e ∈ L, 0 ≤ e ∧ e < 9) (hl : L.length ≤ 10) (R C q X : PV) (K : PX → St → Res) : ∀ (m j fuel w : Nat), j + m = L.length → m < fuel → w < 2 ^ 9 →
    loopK (ev ((env g lf n).cx Tryd.prog spec_l2Masks.kl) spec_l2Masks.lp1) fuel (spec_l2Masks.st1 R C q X (.int .i64 (w : Int)) p (.int .i64 (j : Int)) h) (spec_l2Masks.K1 (env g lf n) K) =
      spec_l2Masks.K1 (env g lf n) K (.exit 2) (spec_l2Masks.se2_0_1_5_6_7_8_9_25 R C q X (.int .i64 (orAll w (L.drop j) : Int)) p (.int .i64 (L.length : Int)) (.bool false) h)
  | 0, j, fuel, w, hjm, hf, hw => by
    obtain ⟨f, rfl⟩ : ∃ f, fuel = f + 1 := ⟨fuel - 1, by omega⟩
    obtain rfl : j = L.length := by omega
    rw [loopK_succ, spec_l2Masks.body1_eq]
    have f1 : binP Tryd.prog .lss 3 (.int .i64 (L.length : Int)) (.int .i64 (L.length : Int)) = some (.bool false) := by rw [bin_lss, decide_eq_false (by omega)]
    unfold spec_l2Masks.body1
    refine bd hp.len' (bd f1 (cdF ?_))
    rw [kLoop_exit, List.drop_length, orAll]
  | m + 1, j, fuel, w, hjm, hf, hw => by
    obtain ⟨f, rfl⟩ : ∃ f, fuel = f + 1 := ⟨fuel - 1, by omega⟩
    have hj : j < L.length := by omega
    obtain ⟨a, ha, hla⟩ := hp.at' hj
    have he := hL _ (List.getElem_mem hj)
    obtain ⟨E, hE⟩ := Int.eq_ofNat_of_zero_le he.1
    rw [hE] at hla
    have hE9 : E < 9 := by omega
    have ih := mask_inner hp hL hl R C q X K m (j + 1) f (w ||| (1 <<< E)) (by omega) (by omega) (Nat.or_lt_two_pow hw (shl_lt hE9))
    have f1 : binP Tryd.prog .lss 3 (.int .i64 (j : Int)) (.int .i64 (L.length : Int)) = some (.bool true) := by rw [bin_lss, decide_eq_true (by omega)]
    have f2 := f_shl E (by omega)
    have f3 := f_or (a := w) (b := 1 <<< E) (by omega) (by have := shl_lt hE9; omega)
    have f4 : binP Tryd.prog .add 3 (.int .i64 (j : Int)) (.int .i64 1) = some (.int .i64 ((j + 1 : Nat) : Int)) := by rw [bin_add, nx (by omega)]
    have hdx : L.drop j = L[j] :: L.drop (j + 1) := List.drop_eq_getElem_cons hj
    rw [loopK_succ, spec_l2Masks.body1_eq, hdx, orAll, hE, show ((E : Int).toNat) = E from rfl]
    unfold spec_l2Masks.body1
    exact bd hp.len' (bd f1 (cdT (bd ha (bd hla (bd f2 (bd f3 (bd f4 ih)))))))

theorem mask_loop {R C : Nat} (hB : BoardOf R C) (hn : 2 ≤ n) (hlf : 20 < lf) : ∀ (m i fuel : Nat) (q : PV) (ys : List Int) (h : PHeap) (b : Nat), i + m = R * C → m < fuel → ys = ints ((masksN R C).take i) → OwnSl b h q ys → b ≤ h.length →
    ∃ q' h', loopK (ev ((env g lf n).cx Tryd.prog spec_l2Masks.kl) spec_l2Masks.lp0) fuel (spec_l2Masks.st0 (.int .i64 (R : Int)) (.int .i64 (C : Int)) q (.int .i64 (i : Int)) h) (spec_l2Masks.K0 (env g lf n) (kTop Tryd.prog Tryd.f76)) = some (q', h') ∧
      OwnSl b h' q' (ints (masksN R C)) ∧ Keep b h h'
  | 0, i, fuel, q, ys, h, b, him, hf, hy, ho, hb => by
    obtain ⟨f, rfl⟩ : ∃ f, fuel = f + 1 := ⟨fuel - 1, by omega⟩
    obtain rfl : i = R * C := by omega
    obtain ⟨h1, h2, h3, h4, h9⟩ := hB
    rw [← masksN_length R C, List.take_length] at hy
    refine ⟨q, h, ?_, by rw [← hy]; exact ho, Keep.refl _ _⟩
    rw [loopK_succ, spec_l2Masks.body0_eq]
    have f1 : binP Tryd.prog .lss 3 (.int .i64 ((R * C : Nat) : Int)) (.int .i64 ((R * C : Nat) : Int)) = some (.bool false) := by rw [bin_lss, decide_eq_false (by omega)]
    unfold spec_l2Masks.body0
    refine bd (f_mul R C (by omega)) (bd f1 (cdF ?_))
    rw [kLoop_exit, spec_l2Masks.after0_se0_0_1_5_6_15]
    exact bd ho.res rfl
  | m + 1, i, fuel, q, ys, h, b, him, hf, hy, ho, hb => by
    obtain ⟨f, rfl⟩ : ∃ f, fuel = f + 1 := ⟨fuel - 1, by omega⟩
    obtain ⟨h1, h2, h3, h4, h9⟩ := id hB
    have f1 : binP Tryd.prog .lss 3 (.int .i64 (i : Int)) (.int .i64 ((R * C : Nat) : Int)) = some (.bool true) := by rw [bin_lss, decide_eq_true (by omega)]
    obtain ⟨p, hn1, eN, oN, kN⟩ := l1Near_calls g lf n (by omega) hlf (h := h) h2 h3 h4 (show i ≤ 9 by omega)
    have hl6 := nearN_length R C i
    have hin : ∀ e ∈ nearN R C i, 0 ≤ e ∧ e < 9 := fun e he => by have := near_in h1 h2 h3 h4 h9 (show i < R * C by omega) e he; omega
    have inner := mask_inner g lf n oN.int hin (by omega) (.int .i64 (R : Int)) (.int .i64 (C : Int)) q (.int .i64 (i : Int)) (kLoop (ev ((env g lf n).cx Tryd.prog spec_l2Masks.kl) spec_l2Masks.lp0) f (spec_l2Masks.K0 (env g lf n) (kTop Tryd.prog Tryd.f76))) (nearN R C i).length 0 lf 0 (by omega) (by omega) (by decide)
    rw [List.drop_zero] at inner
    have ho1 := ho.keep kN
    have hlen : ys.length ≤ 9 := by rw [hy, ints_length, List.length_take]; omega
    obtain ⟨v, q2, h2', hb2, ha2, ho2, hk2⟩ := ho1.append (by have := kN.1; omega) ((orAll 0 (nearN R C i) : Nat) : Int) (by omega)
    have f4 : binP Tryd.prog .add 3 (.int .i64 (i : Int)) (.int .i64 1) = some (.int .i64 ((i + 1 : Nat) : Int)) := by rw [bin_add, nx (by omega)]
    have hy2 : ys ++ [((orAll 0 (nearN R C i) : Nat) : Int)] = ints ((masksN R C).take (i + 1)) := by
      have hi : i < (masksN R C).length := by rw [masksN_length]; omega
      rw [hy, List.take_add_one, List.getElem?_eq_getElem hi]
      simp [ints, masksN]
    obtain ⟨q', h', ih, o', k'⟩ := mask_loop hB hn hlf m (i + 1) f q2 _ h2' b (by omega) (by omega) hy2 ho2 (by have := hk2.1; have := kN.1; omega)
    refine ⟨q', h', ?_, o', ((kN.mono hb).trans hk2).trans k'⟩
    rw [loopK_succ, spec_l2Masks.body0_eq]
    unfold spec_l2Masks.body0
    refine bd (f_mul R C (by omega)) (bd f1 (cdT (bd eN (inner.trans ?_))))
    rw [spec_l2Masks.after1_se2_0_1_5_6_7_8_9_25]
    exact bd hb2 (bd ha2 (bd f4 ih))

theorem l2Masks_calls {R C : Nat} (hB : BoardOf R C) (N : Nat) (hN : 3 ≤ N) (hlf : 20 < lf) {h : PHeap} :
    ∃ q h', CL g lf N fn_spec_l2Masks [.int .i64 (R : Int), .int .i64 (C : Int)] h = some (q, h') ∧ OwnSl h.length h' q (ints (masksN R C)) ∧ Keep h.length h h' := by
  obtain ⟨n, rfl⟩ : ∃ n, N = n + 1 := ⟨N - 1, by omega⟩
  rw [spec_l2Masks.call_eq]
  obtain ⟨q0, h0, e0, o0, k0⟩ := empty_lit (h := h)
  obtain ⟨q', h', e, o, k⟩ := mask_loop g lf n hB (by omega) hlf (R * C) 0 lf q0 [] h0 h.length (by omega) (by have := hB.2.2.2.2; omega) (by simp [ints]) o0 k0.1
  refine ⟨q', h', ?_, o, k0.trans k⟩
  unfold spec_l2Masks.main
  exact bd e0 e

/-! ### sides -/
def atSide (C P i : Nat) : Nat := if P = 2 then i % C else i / C
def endSide (R C P : Nat) : Nat := if P = 2 then C - 1 else R - 1
def sideFrom (R C P : Nat) (last : Bool) : Nat → Nat → Nat → Nat
  | 0, _, w => w
  | m + 1, i, w => sideFrom R C P last m (i + 1) (if (bif last then decide (atSide C P i = endSide R C P) else decide (atSide C P i = 0)) = true then w ||| (1 <<< i) else w)
def sideN (R C P : Nat) (last : Bool) : Nat := sideFrom R C P last (R * C) 0 0

theorem side_step {R C P i : Nat} (hB : BoardOf R C) (hP : P = 1 ∨ P = 2) (last : Bool) (hi : i < R * C) (w : Nat) (hw : w < 2 ^ 9) (K : PX → St → Res) (h : PHeap) :
    spec_l2Side.body0 (env g lf n) K (.int .i64 (R : Int)) (.int .i64 (C : Int)) (.int .i64 (P : Int)) (.bool last) (.int .i64 (w : Int)) (.int .i64 (i : Int)) h =
      K .normal (spec_l2Side.st0 (.int .i64 (R : Int)) (.int .i64 (C : Int)) (.int .i64 (P : Int)) (.bool last) (.int .i64 ((if (bif last then decide (atSide C P i = endSide R C P) else decide (atSide C P i = 0)) = true then w ||| (1 <<< i) else w : Nat) : Int)) (.int .i64 ((i + 1 : Nat) : Int)) h) := by
  obtain ⟨h1, h2, h3, h4, h9⟩ := hB
  have f1 : binP Tryd.prog .lss 3 (.int .i64 (i : Int)) (.int .i64 ((R * C : Nat) : Int)) = some (.bool true) := by rw [bin_lss, decide_eq_true (by omega)]
  have fq := f_quo i C h3 (by omega)
  have fr := f_rem i C h3
  have fs := f_shl i (by omega)
  have fo := f_or (a := w) (b := 1 <<< i) (by omega) (by have := shl_lt (show i < 9 by omega); omega)
  have fn' : binP Tryd.prog .add 3 (.int .i64 (i : Int)) (.int .i64 1) = some (.int .i64 ((i + 1 : Nat) : Int)) := by rw [bin_add, nx (by omega)]
  have fR : binP Tryd.prog .sub 3 (.int .i64 (R : Int)) (.int .i64 1) = some (.int .i64 ((R - 1 : Nat) : Int)) := by rw [bin_sub, wr (by omega), show (R : Int) - 1 = ((R - 1 : Nat) : Int) by omega]
  have fC : binP Tryd.prog .sub 3 (.int .i64 (C : Int)) (.int .i64 1) = some (.int .i64 ((C - 1 : Nat) : Int)) := by rw [bin_sub, wr (by omega), show (C : Int) - 1 = ((C - 1 : Nat) : Int) by omega]
  have eqz : ∀ x y : Nat, binP Tryd.prog .eql 3 (.int .i64 (x : Int)) (.int .i64 (y : Int)) = some (.bool (decide (x = y))) := fun x y => by rw [bin_eql, natEq]
  have eq0 : ∀ x : Nat, binP Tryd.prog .eql 3 (.int .i64 (x : Int)) (.int .i64 0) = some (.bool (decide (x = 0))) := fun x => eqz x 0
  unfold spec_l2Side.body0
  rcases hP with rfl | rfl
  · have fP : binP Tryd.prog .eql 3 (.int .i64 ((1 : Nat) : Int)) (.int .i64 2) = some (.bool false) := by rw [bin_eql]; rfl
    have ea : atSide C 1 i = i / C := rfl
    have ee : endSide R C 1 = R - 1 := rfl
    rw [ea, ee]
    refine bd (f_mul R C (by omega)) (bd f1 (cdT (bd fq (bd fR (bd fP (cdF ?_))))))
    cases last with
    | true =>
      simp only [cond_true]
      by_cases e : i / C = R - 1
      · have g1 := eqz (i / C) (R - 1)
        rw [decide_eq_true e] at g1
        rw [if_pos (decide_eq_true e)]
        refine gd rfl (bd rfl (gd rfl (bd rfl (gd rfl (bd (congrArg (pv _) g1) (bd (v := PV.bool true) rfl ?_))))))
        refine gn rfl (bd rfl (gn rfl (bd rfl (gn rfl (bd rfl (gu (bd rfl (gu (bd rfl (gn rfl (bd rfl (bd (v := PV.bool true) rfl (cdT ?_)))))))))))))
        exact bd fs (bd fo (bd fn' rfl))
      · have g1 := eqz (i / C) (R - 1)
        rw [decide_eq_false e] at g1
        rw [if_neg (by simpa using e)]
        refine gd rfl (bd rfl (gd rfl (bd rfl (gd rfl (bd (congrArg (pv _) g1) (bd (v := PV.bool false) rfl ?_))))))
        refine gd rfl (bd rfl (gd rfl (bd (v := (PV.bool false, h)) rfl (gd rfl (bd rfl (gn rfl (bd rfl (gn rfl (bd rfl (gd rfl (bd (v := (PV.bool false, h)) rfl (bd (v := PV.bool false) rfl (cdF ?_)))))))))))))
        exact bd fn' rfl
    | false =>
      simp only [cond_false]
      have g1 := eq0 (i / C)
      refine gn rfl (bd rfl (gn rfl (bd rfl (gn rfl (bd rfl (bd (v := PV.bool false) rfl ?_))))))
      refine gd rfl (bd rfl (gd rfl (bd (v := (PV.bool true, h)) rfl (gd rfl (bd rfl (gd rfl (bd rfl (gd rfl (bd (congrArg (pv _) g1) (gd rfl (bd (v := (PV.bool (decide (i / C = 0)), h)) rfl (bd (v := PV.bool (decide (i / C = 0))) rfl ?_))))))))))))
      by_cases e : i / C = 0
      · rw [decide_eq_true e, if_pos rfl]
        exact cdT (bd fs (bd fo (bd fn' rfl)))
      · rw [decide_eq_false e, if_neg (by decide)]
        exact cdF (bd fn' rfl)
  · have fP : binP Tryd.prog .eql 3 (.int .i64 ((2 : Nat) : Int)) (.int .i64 2) = some (.bool true) := by rw [bin_eql]; rfl
    have ea : atSide C 2 i = i % C := rfl
    have ee : endSide R C 2 = C - 1 := rfl
    rw [ea, ee]
    refine bd (f_mul R C (by omega)) (bd f1 (cdT (bd fq (bd fR (bd fP (cdT (bd fr (bd fC ?_))))))))
    cases last with
    | true =>
      simp only [cond_true]
      by_cases e : i % C = C - 1
      · have g1 := eqz (i % C) (C - 1)
        rw [decide_eq_true e] at g1
        rw [if_pos (decide_eq_true e)]
        refine gd rfl (bd rfl (gd rfl (bd rfl (gd rfl (bd (congrArg (pv _) g1) (bd (v := PV.bool true) rfl ?_))))))
        refine gn rfl (bd rfl (gn rfl (bd rfl (gn rfl (bd rfl (gu (bd rfl (gu (bd rfl (gn rfl (bd rfl (bd (v := PV.bool true) rfl (cdT ?_)))))))))))))
        exact bd fs (bd fo (bd fn' rfl))
      · have g1 := eqz (i % C) (C - 1)
        rw [decide_eq_false e] at g1
        rw [if_neg (by simpa using e)]
        refine gd rfl (bd rfl (gd rfl (bd rfl (gd rfl (bd (congrArg (pv _) g1) (bd (v := PV.bool false) rfl ?_))))))
        refine gd rfl (bd rfl (gd rfl (bd (v := (PV.bool false, h)) rfl (gd rfl (bd rfl (gn rfl (bd rfl (gn rfl (bd rfl (gd rfl (bd (v := (PV.bool false, h)) rfl (bd (v := PV.bool false) rfl (cdF ?_)))))))))))))
        exact bd fn' rfl
    | false =>
      simp only [cond_false]
      have g1 := eq0 (i % C)
      refine gn rfl (bd rfl (gn rfl (bd rfl (gn rfl (bd rfl (bd (v := PV.bool false) rfl ?_))))))
      refine gd rfl (bd rfl (gd rfl (bd (v := (PV.bool true, h)) rfl (gd rfl (bd rfl (gd rfl (bd rfl (gd rfl (bd (congrArg (pv _) g1) (gd rfl (bd (v := (PV.bool (decide (i % C = 0)), h)) rfl (bd (v := PV.bool (decide (i % C = 0))) rfl ?_))))))))))))
      by_cases e : i % C = 0
      · rw [decide_eq_true e, if_pos rfl]
        exact cdT (bd fs (bd fo (bd fn' rfl)))
      · rw [decide_eq_false e, if_neg (by decide)]
        exact cdF (bd fn' rfl)

theorem sideFrom_lt {R C P : Nat} {last : Bool} (h9 : R * C ≤ 9) : ∀ (m i w : Nat), i + m = R * C → w < 2 ^ 9 → sideFrom R C P last m i w < 2 ^ 9
  | 0, _, _, _, hw => hw
  | m + 1, i, w, him, hw => by
    rw [sideFrom]
    refine sideFrom_lt h9 m (i + 1) _ (by omega) ?_
    split
    · exact Nat.or_lt_two_pow hw (shl_lt (by omega))
    · exact hw
theorem sideN_lt {R C P : Nat} {last : Bool} (hB : BoardOf R C) : sideN R C P last < 2 ^ 9 := sideFrom_lt hB.2.2.2.2 _ _ _ (by omega) (by decide)

theorem side_loop {R C P : Nat} (hB : BoardOf R C) (hP : P = 1 ∨ P = 2) (last : Bool) (h : PHeap) : ∀ (m i fuel w : Nat), i + m = R * C → m < fuel → w < 2 ^ 9 →
    loopK (ev ((env g lf n).cx Tryd.prog spec_l2Side.kl) spec_l2Side.lp0) fuel (spec_l2Side.st0 (.int .i64 (R : Int)) (.int .i64 (C : Int)) (.int .i64 (P : Int)) (.bool last) (.int .i64 (w : Int)) (.int .i64 (i : Int)) h) (spec_l2Side.K0 (env g lf n) (kTop Tryd.prog Tryd.f109)) = some (.int .i64 (sideFrom R C P last m i w : Int), h)
  | 0, i, fuel, w, him, hf, hw => by
    obtain ⟨f, rfl⟩ : ∃ f, fuel = f + 1 := ⟨fuel - 1, by omega⟩
    obtain ⟨h1, h2, h3, h4, h9⟩ := hB
    rw [loopK_succ, spec_l2Side.body0_eq]
    have f1 : binP Tryd.prog .lss 3 (.int .i64 (i : Int)) (.int .i64 ((R * C : Nat) : Int)) = some (.bool false) := by rw [bin_lss, decide_eq_false (by omega)]
    unfold spec_l2Side.body0
    refine bd (f_mul R C (by omega)) (bd f1 (cdF ?_))
    rw [kLoop_exit, spec_l2Side.after0_se0_0_1_2_3_9_10_17]
    exact bd res_int rfl
  | m + 1, i, fuel, w, him, hf, hw => by
    obtain ⟨f, rfl⟩ : ∃ f, fuel = f + 1 := ⟨fuel - 1, by omega⟩
    rw [loopK_succ, spec_l2Side.body0_eq, side_step g lf n hB hP last (by omega) w hw, kLoop_normal, sideFrom]
    refine side_loop hB hP last h m (i + 1) f _ (by omega) (by omega) ?_
    split
    · exact Nat.or_lt_two_pow hw (shl_lt (by have := hB.2.2.2.2; omega))
    · exact hw

theorem l2Side_calls {R C P : Nat} (hB : BoardOf R C) (hP : P = 1 ∨ P = 2) (last : Bool) (N : Nat) (hN : 1 ≤ N) (hlf : 20 < lf) (h : PHeap) :
    CL g lf N fn_spec_l2Side [.int .i64 (R : Int), .int .i64 (C : Int), .int .i64 (P : Int), .bool last] h = some (.int .i64 (sideN R C P last : Int), h) := by
  obtain ⟨n, rfl⟩ : ∃ n, N = n + 1 := ⟨N - 1, by omega⟩
  rw [spec_l2Side.call_eq]
  unfold spec_l2Side.main
  exact side_loop g lf n hB hP last h (R * C) 0 lf 0 (by omega) (by have := hB.2.2.2.2; omega) (by decide)

/-! ### the cells with a stone -/
def setFrom (what : Int) : Nat → List Int → Nat → Nat
  | _, [], w => w
  | k, x :: xs, w => setFrom what (k + 1) xs (if x = what then w ||| (1 <<< k) else w)
def setL (xs : List Int) (what : Int) : Nat := setFrom what 0 xs 0

theorem setFrom_lt (what : Int) {n : Nat} : ∀ (xs : List Int) (k w : Nat), k + xs.length ≤ n → w < 2 ^ n → setFrom what k xs w < 2 ^ n
  | [], _, _, _, hw => hw
  | x :: xs, k, w, hk, hw => by
    rw [setFrom]
    rw [List.length_cons] at hk
    refine setFrom_lt what xs (k + 1) _ (by omega) ?_
    split
    · refine Nat.or_lt_two_pow hw ?_
      rw [Nat.one_shiftLeft]; exact Nat.pow_lt_pow_right (by decide) (by omega)
    · exact hw
theorem setL_lt (what : Int) {xs : List Int} {n : Nat} (h : xs.length ≤ n) : setL xs what < 2 ^ n := setFrom_lt what xs 0 0 (by omega) (Nat.two_pow_pos n)

theorem setFrom_bit (what : Int) (j : Nat) : ∀ (xs : List Int) (k w : Nat), (setFrom what k xs w).testBit j = true ↔ w.testBit j = true ∨ ∃ i, j = k + i ∧ xs[i]? = some what
  | [], k, w => by simp [setFrom]
  | x :: xs, k, w => by
    rw [setFrom, setFrom_bit what j xs (k + 1)]
    have hs : (∃ i, j = k + i ∧ (x :: xs)[i]? = some what) ↔ (j = k ∧ x = what) ∨ ∃ i, j = k + 1 + i ∧ xs[i]? = some what := by
      constructor
      · rintro ⟨i, h1, h2⟩
        cases i with
        | zero => exact .inl ⟨by omega, by simpa using h2⟩
        | succ i => exact .inr ⟨i, by omega, by simpa using h2⟩
      · rintro (⟨h1, h2⟩ | ⟨i, h1, h2⟩)
        · exact ⟨0, by omega, by simp [h2]⟩
        · exact ⟨i + 1, by omega, by simpa using h2⟩
    rw [hs]
    by_cases e : x = what
    · rw [if_pos e, Nat.testBit_or, one_bit, Bool.or_eq_true, decide_eq_true_iff]
      simp [e, or_assoc]
    · rw [if_neg e]; simp [e]

theorem setL_bit {xs : List Int} {what : Int} {j : Nat} : (setL xs what).testBit j = true ↔ xs[j]? = some what := by
  unfold setL
  rw [setFrom_bit]
  constructor
  · rintro (h | ⟨i, h1, h2⟩)
    · rw [Nat.zero_testBit] at h; cases h
    · rw [Nat.zero_add] at h1; subst h1; exact h2
  · intro h; exact .inr ⟨j, by omega, h⟩

theorem set_loop {xs : List Int} {p : PV} {h : PHeap} (what : Int) (hp : IntSl .i64 h p xs) (hl : xs.length ≤ 20) : ∀ (m i fuel w : Nat), i + m = xs.length → m < fuel → w < 2 ^ 30 →
    loopK (ev ((env g lf n).cx Tryd.prog spec_l2Set.kl) spec_l2Set.lp0) fuel (spec_l2Set.st0 p (.int .i64 what) (.int .i64 (w : Int)) (.int .i64 (i : Int)) h) (spec_l2Set.K0 (env g lf n) (kTop Tryd.prog Tryd.f69)) = some (.int .i64 (setFrom what i (xs.drop i) w : Int), h)
  | 0, i, fuel, w, him, hf, hw => by
    obtain ⟨f, rfl⟩ : ∃ f, fuel = f + 1 := ⟨fuel - 1, by omega⟩
    rw [loopK_succ, spec_l2Set.body0_eq]
    have f1 : binP Tryd.prog .lss 3 (.int .i64 (i : Int)) (.int .i64 (xs.length : Int)) = some (.bool false) := by rw [bin_lss, decide_eq_false (by omega)]
    unfold spec_l2Set.body0
    refine bd hp.len' (bd f1 (cdF ?_))
    rw [kLoop_exit, spec_l2Set.after0_se0_0_1_5_6_10, List.drop_eq_nil_of_le (by omega), setFrom]
    exact bd res_int rfl
  | m + 1, i, fuel, w, him, hf, hw => by
    obtain ⟨f, rfl⟩ : ∃ f, fuel = f + 1 := ⟨fuel - 1, by omega⟩
    have hi : i < xs.length := by omega
    obtain ⟨a, ha, hla⟩ := hp.at' hi
    have hdx : xs.drop i = xs[i] :: xs.drop (i + 1) := List.drop_eq_getElem_cons hi
    have f1 : binP Tryd.prog .lss 3 (.int .i64 (i : Int)) (.int .i64 (xs.length : Int)) = some (.bool true) := by rw [bin_lss, decide_eq_true (by omega)]
    have f2 : binP Tryd.prog .eql 3 (.int .i64 xs[i]) (.int .i64 what) = some (.bool (decide (xs[i] = what))) := by rw [bin_eql]; rfl
    have f4 : binP Tryd.prog .add 3 (.int .i64 (i : Int)) (.int .i64 1) = some (.int .i64 ((i + 1 : Nat) : Int)) := by rw [bin_add, nx (by omega)]
    have h30 : 1 <<< i < 2 ^ 30 := by rw [Nat.one_shiftLeft]; exact Nat.pow_lt_pow_right (by decide) (by omega)
    rw [loopK_succ, spec_l2Set.body0_eq, hdx, setFrom]
    unfold spec_l2Set.body0
    refine bd hp.len' (bd f1 (cdT (bd ha (bd hla (bd f2 ?_)))))
    by_cases e : xs[i] = what
    · rw [decide_eq_true e, if_pos e]
      refine cdT (bd (f_shl i (by omega)) (bd (f_or (a := w) (b := 1 <<< i) (by omega) (by omega)) (bd f4 ?_)))
      rw [kLoop_normal]
      exact set_loop what hp hl m (i + 1) f _ (by omega) (by omega) (Nat.or_lt_two_pow hw h30)
    · rw [decide_eq_false e, if_neg e]
      refine cdF (bd f4 ?_)
      rw [kLoop_normal]
      exact set_loop what hp hl m (i + 1) f _ (by omega) (by omega) hw

theorem l2Set_calls {xs : List Int} {p : PV} {h : PHeap} (what : Int) (hp : IntSl .i64 h p xs) (hl : xs.length ≤ 20) (N : Nat) (hN : 1 ≤ N) (hlf : 20 < lf) :
    CL g lf N fn_spec_l2Set [p, .int .i64 what] h = some (.int .i64 (setL xs what : Int), h) := by
  obtain ⟨n, rfl⟩ : ∃ n, N = n + 1 := ⟨N - 1, by omega⟩
  rw [spec_l2Set.call_eq]
  unfold spec_l2Set.main
  have := set_loop g lf n what hp hl xs.length 0 lf 0 (by omega) (by omega) (by decide)
  rw [List.drop_zero] at this
  exact this

/-! ### growing -/
theorem bitq (x k : Nat) (hk : k ≤ 20) : binP Tryd.prog .shr 3 (.int .i64 (x : Int)) (.int .i64 (k : Int)) = some (.int .i64 ((x >>> k : Nat) : Int)) ∧ binP Tryd.prog .rem 3 (.int .i64 ((x >>> k : Nat) : Int)) (.int .i64 2) = some (.int .i64 ((x >>> k % 2 : Nat) : Int)) ∧
    binP Tryd.prog .eql 3 (.int .i64 ((x >>> k % 2 : Nat) : Int)) (.int .i64 1) = some (.bool (decide (x >>> k % 2 = 1))) :=
  ⟨f_shr x k (by omega), f_rem (x >>> k) 2 (by decide), by rw [bin_eql]; exact congrArg (fun z => some (PV.bool z)) (natEq _ 1)⟩

theorem grow_inner {M : List Nat} {p : PV} {h : PHeap} (hp : IntSl .i64 h p (ints M)) (hM : ∀ m ∈ M, m < 2 ^ 9) (hl : M.length ≤ 9) {set now : Nat} (hs : set < 2 ^ 9) (K : PX → St → Res) : ∀ (m k fuel nx : Nat), k + m = M.length → m < fuel → nx < 2 ^ 9 →
    loopK (ev ((env g lf n).cx Tryd.prog spec_l2Grow.kl) spec_l2Grow.lp1) fuel (spec_l2Grow.st1 p (.int .i64 (set : Int)) (.int .i64 (now : Int)) (.int .i64 (nx : Int)) (.int .i64 (k : Int)) h) (spec_l2Grow.K1 (env g lf n) K) =
      K .normal (spec_l2Grow.st0 p (.int .i64 (set : Int)) (.int .i64 (stepFrom set now k (M.drop k) nx : Int)) (.bool (!decide (stepFrom set now k (M.drop k) nx = now))) h)
  | 0, k, fuel, nx', hkm, hf, hnx => by
    obtain ⟨f, rfl⟩ : ∃ f, fuel = f + 1 := ⟨fuel - 1, by omega⟩
    rw [loopK_succ, spec_l2Grow.body1_eq]
    have f1 : binP Tryd.prog .lss 3 (.int .i64 (k : Int)) (.int .i64 ((ints M).length : Int)) = some (.bool false) := by rw [bin_lss, ints_length, decide_eq_false (by omega)]
    have f2 : binP Tryd.prog .neq 3 (.int .i64 (nx' : Int)) (.int .i64 (now : Int)) = some (.bool (!decide (nx' = now))) := by
      rw [bin_neq, bne, natEq]
    unfold spec_l2Grow.body1
    refine bd hp.len' (bd f1 (cdF ?_))
    rw [kLoop_exit, spec_l2Grow.after1_se2_0_1_7_9_10_19, List.drop_eq_nil_of_le (by omega), stepFrom]
    exact bd f2 rfl
  | m + 1, k, fuel, nx', hkm, hf, hnx => by
    obtain ⟨f, rfl⟩ : ∃ f, fuel = f + 1 := ⟨fuel - 1, by omega⟩
    have hk : k < M.length := by omega
    obtain ⟨a, ha, hla⟩ := hp.at' (show k < (ints M).length by rw [ints_length]; exact hk)
    rw [ints_get hk] at hla
    have hmk : M.getD k 0 < 2 ^ 9 := by
      rw [List.getD_eq_getElem?_getD, List.getElem?_eq_getElem hk]; exact hM _ (List.getElem_mem hk)
    have hdx : M.drop k = M.getD k 0 :: M.drop (k + 1) := by
      rw [List.getD_eq_getElem?_getD, List.getElem?_eq_getElem hk]; exact List.drop_eq_getElem_cons hk
    have f1 : binP Tryd.prog .lss 3 (.int .i64 (k : Int)) (.int .i64 ((ints M).length : Int)) = some (.bool true) := by rw [bin_lss, ints_length, decide_eq_true (by omega)]
    obtain ⟨b1, b2, b3⟩ := bitq now k (by omega)
    have f4 : binP Tryd.prog .add 3 (.int .i64 (k : Int)) (.int .i64 1) = some (.int .i64 ((k + 1 : Nat) : Int)) := by rw [bin_add, nx (by omega)]
    rw [loopK_succ, spec_l2Grow.body1_eq, hdx, stepFrom]
    unfold spec_l2Grow.body1
    refine bd hp.len' (bd f1 (cdT (bd b1 (bd b2 (bd b3 ?_)))))
    by_cases e : now >>> k % 2 = 1
    · rw [decide_eq_true e, if_pos e]
      have ha2 := f_and (a := M.getD k 0) (b := set) (by omega) (by omega)
      have hlt := Nat.and_lt_two_pow (M.getD k 0) hs
      have ho2 := f_or (a := nx') (b := M.getD k 0 &&& set) (by omega) (by omega)
      refine cdT (bd ha (bd hla (bd ha2 (bd ho2 (bd f4 ?_)))))
      rw [kLoop_normal]
      exact grow_inner hp hM hl hs K m (k + 1) f _ (by omega) (by omega) (Nat.or_lt_two_pow hnx hlt)
    · rw [decide_eq_false e, if_neg e]
      refine cdF (bd f4 ?_)
      rw [kLoop_normal]
      exact grow_inner hp hM hl hs K m (k + 1) f _ (by omega) (by omega) hnx

theorem grow_loop {M : List Nat} {p : PV} {h : PHeap} (hp : IntSl .i64 h p (ints M)) (hM : ∀ m ∈ M, m < 2 ^ 9) (hl : M.length ≤ 9) {set : Nat} (hs : set < 2 ^ 9) (hlf : 20 < lf) : ∀ (f fuel now : Nat), (∀ j, now.testBit j = true → set.testBit j = true) → set < now + f → f + 1 < fuel →
    loopK (ev ((env g lf n).cx Tryd.prog spec_l2Grow.kl) spec_l2Grow.lp0) fuel (spec_l2Grow.st0 p (.int .i64 (set : Int)) (.int .i64 (now : Int)) (.bool true) h) (spec_l2Grow.K0 (env g lf n) (kTop Tryd.prog Tryd.f108)) = some (.int .i64 (growF M set f now : Int), h)
  | 0, fuel, now, hsub, hf, hfu => by have := sub_le hsub; omega
  | f + 1, fuel, now, hsub, hf, hfu => by
    obtain ⟨F, rfl⟩ : ∃ F, fuel = F + 1 := ⟨fuel - 1, by omega⟩
    have hnow : now < 2 ^ 9 := Nat.lt_of_le_of_lt (sub_le hsub) hs
    have inner := grow_inner g lf n hp hM hl (set := set) (now := now) hs (kLoop (ev ((env g lf n).cx Tryd.prog spec_l2Grow.kl) spec_l2Grow.lp0) F (spec_l2Grow.K0 (env g lf n) (kTop Tryd.prog Tryd.f108))) M.length 0 lf now (by omega) (by omega) hnow
    rw [List.drop_zero] at inner
    rw [loopK_succ, spec_l2Grow.body0_eq]
    unfold spec_l2Grow.body0
    refine cdT (inner.trans ?_)
    rw [kLoop_normal, growF]
    by_cases e : stepFrom set now 0 M now = now
    · rw [if_pos e, e, decide_eq_true rfl, Bool.not_true]
      obtain ⟨F', rfl⟩ : ∃ F', F = F' + 1 := ⟨F - 1, by omega⟩
      rw [loopK_succ, spec_l2Grow.body0_eq]
      unfold spec_l2Grow.body0
      refine cdF ?_
      rw [kLoop_exit, spec_l2Grow.after0_se0_0_1_7_14]
      exact bd res_int rfl
    · rw [if_neg e, decide_eq_false e, Bool.not_false]
      have hle := stepFrom_le set now M 0 now
      exact grow_loop hp hM hl hs hlf f F _ (step_sub hsub) (by omega) (by omega)

theorem l2Grow_calls {M : List Nat} {p : PV} {h : PHeap} (hp : IntSl .i64 h p (ints M)) (hM : ∀ m ∈ M, m < 2 ^ 9) (hl : M.length ≤ 9) {set fr : Nat} (hs : set < 2 ^ 9) (hfr : fr < 2 ^ 62) (N : Nat) (hN : 1 ≤ N) (hlf : 1000 < lf) :
    CL g lf N fn_spec_l2Grow [p, .int .i64 (set : Int), .int .i64 (fr : Int)] h = some (.int .i64 (growN M set fr : Int), h) := by
  obtain ⟨n, rfl⟩ : ∃ n, N = n + 1 := ⟨N - 1, by omega⟩
  rw [spec_l2Grow.call_eq]
  unfold spec_l2Grow.main
  refine bd (f_and (a := fr) (b := set) hfr (by omega)) ?_
  exact grow_loop g lf n hp hM hl hs (by omega) 600 lf (fr &&& set) (fun j hj => by rw [Nat.testBit_and, Bool.and_eq_true] at hj; exact hj.2) (by omega) (by omega)

def joinsN (R C P S : Nat) : Bool := !decide (growN (masksN R C) S (sideN R C P false) &&& sideN R C P true = 0)

theorem l2Joins_calls {R C P S : Nat} (hB : BoardOf R C) (hP : P = 1 ∨ P = 2) {p : PV} {h : PHeap} (hp : IntSl .i64 h p (ints (masksN R C))) (hs : S < 2 ^ 9) (N : Nat) (hN : 2 ≤ N) (hlf : 1000 < lf) :
    CL g lf N fn_spec_l2Joins [.int .i64 (R : Int), .int .i64 (C : Int), p, .int .i64 (S : Int), .int .i64 (P : Int)] h = some (.bool (joinsN R C P S), h) := by
  obtain ⟨n, rfl⟩ : ∃ n, N = n + 1 := ⟨N - 1, by omega⟩
  rw [spec_l2Joins.call_eq]
  have s1 := l2Side_calls g lf hB hP false n (by omega) (by omega) h
  have s2 := l2Side_calls g lf hB hP true n (by omega) (by omega) h
  have l1 := sideN_lt (P := P) (last := false) hB
  have l2 := sideN_lt (P := P) (last := true) hB
  have gr := l2Grow_calls g lf hp (masksN_lt hB) (by rw [masksN_length]; exact hB.2.2.2.2) hs (fr := sideN R C P false) (by omega) n (by omega) hlf
  have lg := grow_lt (M := masksN R C) (fr := sideN R C P false) hs
  have fa := f_and (a := growN (masksN R C) S (sideN R C P false)) (b := sideN R C P true) (by omega) (by omega)
  have fn' : binP Tryd.prog .neq 3 (.int .i64 ((growN (masksN R C) S (sideN R C P false) &&& sideN R C P true : Nat) : Int)) (.int .i64 0) = some (.bool (joinsN R C P S)) := by
    rw [bin_neq]
    unfold joinsN
    exact congrArg (fun z => some (PV.bool (!z))) (natEq _ 0)
  unfold spec_l2Joins.main
  exact bd s1 (bd gr (bd s2 (bd fa (bd fn' (bd res_bool rfl)))))

end Go.Proofs.YtmhflbomploidaaDoor

/- The model's chapter 2: what Joins, GroupOf, GapOf, Filled and GapCells of it compute. -/
set_option maxRecDepth 20000
namespace Go.Proofs.YtmhflbomploidaaDoor
open Go Go.Ip G

def playerB (p : Int) : Bool := decide (1 ≤ p ∧ p ≤ 2)
def joinsL (r c : Int) (xs : List Int) (p : Int) : Bool := posB r c xs && playerB p && joinsN r.toNat c.toNat p.toNat (setL xs p)
def listFrom (set : Nat) : Nat → Nat → List Int
  | 0, _ => []
  | m + 1, k => if set >>> k % 2 = 1 then (k : Int) :: listFrom set m (k + 1) else listFrom set m (k + 1)
def listN (set : Nat) : List Int := listFrom set 9 0
theorem board_of_sides {r c : Int} {R C : Nat} {xs : List Int} (h : Sides r c R C xs) : BoardOf R C := by
  obtain ⟨_, _, h1, h2, h3, h4, h9, _, _⟩ := h
  exact ⟨h1, h2, h3, h4, h9⟩
theorem player_of {p : Int} (h : playerB p = true) : ∃ P : Nat, p = (P : Int) ∧ (P = 1 ∨ P = 2) := by
  unfold playerB at h
  have := of_decide_eq_true h
  obtain ⟨P, rfl⟩ := Int.eq_ofNat_of_zero_le (show 0 ≤ p by omega)
  exact ⟨P, rfl, by omega⟩

variable (g : Nat → PV) (lf n : Nat)

/-! ### a set's list -/
theorem listFrom_length (set : Nat) : ∀ (m k : Nat), (listFrom set m k).length ≤ m
  | 0, _ => Nat.le_refl _
  | m + 1, k => by
    have := listFrom_length set m (k + 1)
    rw [listFrom]; split
    · rw [List.length_cons]; omega
    · omega
theorem listN_length (set : Nat) : (listN set).length ≤ 9 := listFrom_length set 9 0

theorem listFrom_nil {set : Nat} : ∀ (m k : Nat), set >>> k = 0 → listFrom set m k = []
  | 0, _, _ => rfl
  | m + 1, k, h => by
    have h2 : set >>> (k + 1) = 0 := by rw [Nat.shiftRight_add, h]; rfl
    rw [listFrom, h, if_neg (by decide), listFrom_nil m (k + 1) h2]

theorem list_loop {set : Nat} (hs : set < 2 ^ 9) : ∀ (m k fuel : Nat) (q : PV) (ys : List Int) (h : PHeap) (b : Nat), k + m = 9 → m < fuel → ys.length ≤ k → OwnSl b h q ys → b ≤ h.length →
    ∃ q' h', loopK (ev ((env g lf n).cx Tryd.prog spec_l2List.kl) spec_l2List.lp0) fuel (spec_l2List.st0 (.int .i64 (set : Int)) q (.int .i64 (k : Int)) h) (spec_l2List.K0 (env g lf n) (kTop Tryd.prog Tryd.f68)) = some (q', h') ∧
      OwnSl b h' q' (ys ++ listFrom set m k) ∧ Keep b h h'
  | m, k, fuel, q, ys, h, b, hkm, hf, hy, ho, hb => by
    obtain ⟨f, rfl⟩ : ∃ f, fuel = f + 1 := ⟨fuel - 1, by omega⟩
    obtain ⟨b1, b2, b3⟩ := bitq set k (by omega)
    have g1 : binP Tryd.prog .gtr 3 (.int .i64 ((set >>> k : Nat) : Int)) (.int .i64 0) = some (.bool (decide (0 < set >>> k))) := by
      rw [bin_gtr]
      congr 2
      apply decide_eq_decide.2
      omega
    by_cases hz : set >>> k = 0
    · refine ⟨q, h, ?_, by rw [listFrom_nil m k hz, List.append_nil]; exact ho, Keep.refl _ _⟩
      rw [loopK_succ, spec_l2List.body0_eq]
      rw [decide_eq_false (by omega)] at g1
      unfold spec_l2List.body0
      refine bd b1 (bd g1 (cdF ?_))
      rw [kLoop_exit, spec_l2List.after0_se0_0_3_4_9]
      exact bd ho.res rfl
    · match m with
      | 0 =>
        obtain rfl : k = 9 := by omega
        exact absurd (by rw [Nat.shiftRight_eq_div_pow]; exact Nat.div_eq_of_lt hs) hz
      | m + 1 =>
        have f4 : binP Tryd.prog .add 3 (.int .i64 (k : Int)) (.int .i64 1) = some (.int .i64 ((k + 1 : Nat) : Int)) := by rw [bin_add, nx (by omega)]
        rw [decide_eq_true (Nat.pos_of_ne_zero hz)] at g1
        rw [listFrom]
        by_cases e : set >>> k % 2 = 1
        · rw [if_pos e]
          rw [decide_eq_true e] at b3
          obtain ⟨v, q2, h2', hb2, ha2, ho2, hk2⟩ := ho.append hb (k : Int) (by omega)
          obtain ⟨q', h', ih, o', k'⟩ := list_loop hs m (k + 1) f q2 (ys ++ [(k : Int)]) h2' b (by omega) (by omega) (by simp; omega) ho2 (by have := hk2.1; omega)
          refine ⟨q', h', ?_, by simpa using o', hk2.trans k'⟩
          rw [loopK_succ, spec_l2List.body0_eq]
          unfold spec_l2List.body0
          exact bd b1 (bd g1 (cdT (bd b1 (bd b2 (bd b3 (cdT (bd hb2 (bd ha2 (bd f4 ih)))))))))
        · rw [if_neg e]
          rw [decide_eq_false e] at b3
          obtain ⟨q', h', ih, o', k'⟩ := list_loop hs m (k + 1) f q ys h b (by omega) (by omega) (by omega) ho hb
          refine ⟨q', h', ?_, o', k'⟩
          rw [loopK_succ, spec_l2List.body0_eq]
          unfold spec_l2List.body0
          exact bd b1 (bd g1 (cdT (bd b1 (bd b2 (bd b3 (cdF (bd f4 ih)))))))
termination_by m => m

theorem l2List_calls {set : Nat} (hs : set < 2 ^ 9) (N : Nat) (hN : 1 ≤ N) (hlf : 20 < lf) {h : PHeap} :
    ∃ q h', CL g lf N fn_spec_l2List [.int .i64 (set : Int)] h = some (q, h') ∧ OwnSl h.length h' q (listN set) ∧ Keep h.length h h' := by
  obtain ⟨n, rfl⟩ : ∃ n, N = n + 1 := ⟨N - 1, by omega⟩
  rw [spec_l2List.call_eq]
  obtain ⟨q0, h0, e0, o0, k0⟩ := empty_lit (h := h)
  obtain ⟨q', h', e, o, k⟩ := list_loop g lf n hs 9 0 lf q0 [] h0 h.length (by omega) (by omega) (by simp) o0 k0.1
  refine ⟨q', h', ?_, by simpa [listN] using o, k0.trans k⟩
  unfold spec_l2List.main
  exact bd e0 e

/-! ### gaps -/
/-! ### the functions -/
end Go.Proofs.YtmhflbomploidaaDoor

/- The model's Filled and GapCells. -/
set_option maxRecDepth 20000
namespace Go.Proofs.YtmhflbomploidaaDoor
open Go Go.Ip G

variable (g : Nat → PV) (lf n : Nat)

/-- An empty literal, and a whole list appended: a copy. -/
theorem copy_all {xs : List Int} {p : PV} {h : PHeap} (hp : IntSl .i64 h p xs) (hx : 0 < xs.length) (hl : xs.length ≤ 2 ^ 36) :
    ∃ v q h', buildSliceP Tryd.prog 23 0 [] h = some v ∧ appendP Tryd.prog 23 23 v.1 p v.2 = some (q, h') ∧ OwnSl h.length h' q xs ∧ Keep h.length h h' := by
  rcases hp with ⟨rfl, rfl⟩ | ⟨id, off, rfl, hc⟩
  · simp at hx
  have hid : id < h.length := lt_of_cell (hc 0 _ (List.getElem?_eq_getElem hx))
  have hb : buildSliceP Tryd.prog 23 0 [] h = some (.sl h.length 0 0, h ++ [.own 1 []]) := by
    simp [buildSliceP, tyElem, tySize, tyZero, repeatCells, fillP]
  have hcells : ((cellsAt (h ++ [PObj.own 1 []]) id).drop off).take (xs.length * 1) = xs.map (.int .i64) := by
    rw [Nat.mul_one]
    apply List.ext_getElem?
    intro j
    have e : cellsAt (h ++ [PObj.own 1 []]) id = cellsAt h id := by unfold cellsAt; rw [List.getElem?_append_left hid]
    rw [e]
    by_cases hj : j < xs.length
    · rw [List.getElem?_take_of_lt hj, List.getElem?_drop, hc j _ (List.getElem?_eq_getElem hj), List.getElem?_map, List.getElem?_eq_getElem hj]; rfl
    · rw [List.getElem?_eq_none (by rw [List.length_take]; omega), List.getElem?_eq_none (by simp; omega)]
  have hfit : off + xs.length * 1 ≤ (cellsAt (h ++ [PObj.own 1 []]) id).length := by
    have := congrArg List.length hcells
    simp only [List.length_take, List.length_drop, List.length_map, Nat.mul_one] at this ⊢
    omega
  have hsrc : srcP (h ++ [PObj.own 1 []]) 1 (.sl id off xs.length) = some (xs.length, xs.map (.int .i64)) := by
    simp only [srcP]
    rw [if_pos hfit, hcells]
  refine ⟨_, .sl (h.length + 1) 0 (0 + xs.length), ((h ++ [PObj.own 1 []]).set h.length .dead ++ [PObj.own 1 ([] ++ xs.map (.int .i64))]), hb, ?_, .inr ⟨h.length + 1, by omega, by simp, ?_⟩, ?_⟩
  · simp only [appendP, tyElem, tySize, tySmall, bne_self_eq_false, Bool.not_true, Bool.or_self, Bool.false_eq_true, if_false, hsrc, Option.bind_some]
    have h3 : (h ++ [PObj.own 1 []])[h.length]? = some (.own 1 []) := by simp
    rw [h3]
    have : 0 + xs.length ≤ 2 ^ 36 := by omega
    simp only [List.length_nil, Nat.zero_mul, true_and, if_pos this]
    simp
  · rw [List.getElem?_append_right (by simp)]; simp
  · exact (((Keep.append _ h _ (Nat.le_refl _)).trans (Keep.set _ _ h.length .dead (Nat.le_refl _))).trans (Keep.append _ _ _ (by simp)))

/-! ### the cells that close a gap -/
end Go.Proofs.YtmhflbomploidaaDoor

/- Of all boards and all sets of cells: exactly one has joined on a full board; turned, and mirrored. No program text. -/
set_option maxRecDepth 20000
namespace Go.Proofs.YtmhflbomploidaaDoor

def boards : List (Nat × Nat) := [(1, 1), (1, 2), (1, 3), (1, 4), (2, 1), (2, 2), (2, 3), (2, 4), (3, 1), (3, 2), (3, 3), (4, 1), (4, 2)]
theorem board_mem {R C : Nat} (h : BoardOf R C) : (R, C) ∈ boards := by
  obtain ⟨h1, h2, h3, h4, h9⟩ := h
  have hR : R = 1 ∨ R = 2 ∨ R = 3 ∨ R = 4 := by omega
  have hC : C = 1 ∨ C = 2 ∨ C = 3 ∨ C = 4 := by omega
  rcases hR with rfl | rfl | rfl | rfl <;> rcases hC with rfl | rfl | rfl | rfl <;> first | decide | omega

/-- The cells of a set, each at another place. -/
def moved (f : Nat → Nat) (S : Nat) : Nat → Nat
  | 0 => 0
  | k + 1 => moved f S k ||| (if S.testBit k then 1 <<< f k else 0)

def hexB (R C S : Nat) : Bool :=
  (joinsN R C 1 S != joinsN R C 2 (2 ^ (R * C) - 1 - S)) &&
  (joinsN R C 1 (moved (fun k => R * C - 1 - k) S (R * C)) == joinsN R C 1 S) && (joinsN R C 2 (moved (fun k => R * C - 1 - k) S (R * C)) == joinsN R C 2 S) &&
  (joinsN C R 2 (moved (sig C R) S (R * C)) == joinsN R C 1 S) && (joinsN C R 1 (moved (sig C R) S (R * C)) == joinsN R C 2 S)

theorem hex_all : (boards.all fun b => (List.range (2 ^ (b.1 * b.2))).all fun S => hexB b.1 b.2 S) = true := by kernel_rfl

theorem hex_ok {R C S : Nat} (hb : BoardOf R C) (hS : S < 2 ^ (R * C)) : hexB R C S = true := by
  have := List.all_eq_true.1 hex_all (R, C) (board_mem hb)
  exact List.all_eq_true.1 this S (by rw [List.mem_range]; exact hS)

end Go.Proofs.YtmhflbomploidaaDoor

/- Promise 6: mirrored twice it is as before. -/
namespace Go.Proofs.YtmhflbomploidaaDoor
open Go Go.Ip Go.RowKit G

variable (g : Nat → PV) (lf n : Nat)

end Go.Proofs.YtmhflbomploidaaDoor

/- What the laws of chapter 2 say of positions, as facts on sets of cells. No program text. -/
set_option maxRecDepth 20000
namespace Go.Proofs.YtmhflbomploidaaDoor

/-! ### joined sides -/
theorem joins_iff {R C P S : Nat} (hS : S < 2 ^ 9) : joinsN R C P S = true ↔ ∃ j, (sideN R C P true).testBit j = true ∧ Reach (masksN R C) S (sideN R C P false) j := by
  unfold joinsN
  rw [Bool.not_eq_true', decide_eq_false_iff_not]
  constructor
  · intro h
    apply Classical.byContradiction
    intro hn
    exact h (and_zero.2 fun j h1 h2 => hn ⟨j, h2, (grow_bit hS j).1 h1⟩)
  · rintro ⟨j, h1, h2⟩ h
    exact and_zero.1 h j ((grow_bit hS j).2 h2) h1

theorem joins_mono {R C P S T : Nat} (hS : S < 2 ^ 9) (hT : T < 2 ^ 9) (h : ∀ j, S.testBit j = true → T.testBit j = true) (hj : joinsN R C P S = true) : joinsN R C P T = true := by
  obtain ⟨j, h1, h2⟩ := (joins_iff hS).1 hj
  exact (joins_iff hT).2 ⟨j, h1, h2.mono h (fun _ h => h)⟩

theorem compl_bit {n S : Nat} (hS : S < 2 ^ n) (j : Nat) : (2 ^ n - 1 - S).testBit j = (decide (j < n) && !S.testBit j) := by
  rw [Nat.sub_sub, Nat.add_comm 1 S]; exact Nat.testBit_two_pow_sub_succ hS j

theorem hex {R C P S : Nat} (hB : BoardOf R C) (hP : P = 1 ∨ P = 2) (hS : S < 2 ^ (R * C)) : joinsN R C P S = !joinsN R C (3 - P) (2 ^ (R * C) - 1 - S) := by
  have key : ∀ T, T < 2 ^ (R * C) → joinsN R C 1 T = !joinsN R C 2 (2 ^ (R * C) - 1 - T) := fun T hT => by
    have := hex_ok hB hT
    unfold hexB at this
    simp only [Bool.and_eq_true] at this
    have := this.1.1.1.1
    cases h1 : joinsN R C 1 T <;> cases h2 : joinsN R C 2 (2 ^ (R * C) - 1 - T) <;> rw [h1, h2] at this <;> first | rfl | cases this
  rcases hP with rfl | rfl
  · exact key S hS
  · have h2 := key (2 ^ (R * C) - 1 - S) (by omega)
    rw [show 2 ^ (R * C) - 1 - (2 ^ (R * C) - 1 - S) = S by omega] at h2
    rw [show 3 - 2 = 1 from rfl, h2, Bool.not_not]

theorem content_cases {R C : Nat} {r c : Int} {xs : List Int} (hs : Sides r c R C xs) {j : Nat} (hj : j < R * C) : xs[j]? = some 0 ∨ xs[j]? = some 1 ∨ xs[j]? = some 2 := by
  obtain ⟨_, _, _, _, _, _, _, hlen, hall⟩ := hs
  have hj' : j < xs.length := by omega
  have := List.all_eq_true.1 hall _ (List.getElem_mem hj')
  unfold contentB at this
  have := of_decide_eq_true this
  rw [List.getElem?_eq_getElem hj']
  have h3 : xs[j] = 0 ∨ xs[j] = 1 ∨ xs[j] = 2 := by omega
  rcases h3 with h | h | h <;> rw [h] <;> simp

theorem set_lt {R C : Nat} {r c : Int} {xs : List Int} (hs : Sides r c R C xs) (w : Int) : setL xs w < 2 ^ (R * C) := setL_lt w (by have := hs.2.2.2.2.2.2.2.1; omega)
theorem set_lt9 {R C : Nat} {r c : Int} {xs : List Int} (hs : Sides r c R C xs) (w : Int) : setL xs w < 2 ^ 9 := setL_lt w (by have := hs.2.2.2.2.2.2.2.1; have := hs.2.2.2.2.2.2.1; omega)

theorem set_in {R C : Nat} {r c : Int} {xs : List Int} (hs : Sides r c R C xs) {w : Int} {j : Nat} (h : (setL xs w).testBit j = true) : j < R * C := bit_small (set_lt hs w) h

theorem joinsL_eq {R C P : Nat} {xs : List Int} (hb : posB (R : Int) (C : Int) xs = true) (hP : P = 1 ∨ P = 2) : joinsL (R : Int) (C : Int) xs (P : Int) = joinsN R C P (setL xs (P : Int)) := by
  have hp : playerB (P : Int) = true := by rcases hP with rfl | rfl <;> rfl
  unfold joinsL
  rw [hb, hp]; rfl

/-! ### filled -/
/-! ### turned and mirrored -/
theorem moved_bit (f : Nat → Nat) (S : Nat) : ∀ (n j : Nat), (moved f S n).testBit j = true ↔ ∃ k, k < n ∧ S.testBit k = true ∧ j = f k
  | 0, j => by simp [moved]
  | n + 1, j => by
    rw [moved, Nat.testBit_or, Bool.or_eq_true, moved_bit f S n j]
    have hlast : ((if S.testBit n = true then 1 <<< f n else 0).testBit j = true) ↔ (S.testBit n = true ∧ j = f n) := by
      by_cases h : S.testBit n = true
      · rw [if_pos h, one_bit, decide_eq_true_iff]; simp [h]
      · rw [if_neg h, Nat.zero_testBit]; simp [h]
    rw [hlast]
    constructor
    · rintro (⟨k, h1, h2, h3⟩ | ⟨h1, h2⟩)
      · exact ⟨k, by omega, h2, h3⟩
      · exact ⟨n, by omega, h1, h2⟩
    · rintro ⟨k, h1, h2, h3⟩
      by_cases e : k = n
      · subst e; exact .inr ⟨h2, h3⟩
      · exact .inl ⟨k, by omega, h2, h3⟩

theorem swap_player {P : Nat} (hP : P = 1 ∨ P = 2) : swapI (P : Int) = ((3 - P : Nat) : Int) := by rcases hP with rfl | rfl <;> rfl

/-! ### gaps -/
/-! ### the cells that close a gap -/
end Go.Proofs.YtmhflbomploidaaDoor

/- Who wins, told by the sets of both players' stones: what it is, that a stone more never harms, that to move never harms, and that turned and mirrored it is the same. No program text. -/
set_option maxRecDepth 20000
namespace Go.Proofs.YtmhflbomploidaaDoor
open Go Go.Ip G

/-- A stone of the one to move. -/
def putA (t k a : Nat) : Nat := if t = 1 then a ||| (1 <<< k) else a
def putB (t k b : Nat) : Nat := if t = 1 then b else b ||| (1 <<< k)

def winF (R C : Nat) : Nat → Nat → Nat → Nat → Nat
  | 0, a, b, t => if joinsN R C 1 a = true then 1 else if joinsN R C 2 b = true then 2 else 3 - t
  | f + 1, a, b, t => if joinsN R C 1 a = true then 1 else if joinsN R C 2 b = true then 2 else
      if ((List.range (R * C)).any fun k => !(a ||| b).testBit k && decide (winF R C f (putA t k a) (putB t k b) (3 - t) = t)) = true then t else 3 - t

/-- The free cells. -/
def frN (n a b : Nat) : Nat := (List.range n).countP fun k => !(a ||| b).testBit k
def winN (R C a b t : Nat) : Nat := winF R C (R * C) a b t

theorem put_bit (t k a b j : Nat) : (putA t k a ||| putB t k b).testBit j = ((a ||| b).testBit j || decide (j = k)) := by
  unfold putA putB
  split
  · rw [Nat.testBit_or, with_bit, Nat.testBit_or]; cases a.testBit j <;> cases b.testBit j <;> simp
  · rw [Nat.testBit_or, with_bit, Nat.testBit_or, Bool.or_assoc]

theorem fr_put {n t k a b : Nat} (hk : k < n) (h : (a ||| b).testBit k = false) : frN n (putA t k a) (putB t k b) + 1 ≤ frN n a b := by
  refine countP_lt (c := k) (fun x _ hx => ?_) (List.mem_range.2 hk) (by show (!(a ||| b).testBit k) = true; rw [h]; rfl) (by show (!(putA t k a ||| putB t k b).testBit k) = false; rw [put_bit]; simp)
  rw [put_bit] at hx
  cases e : (a ||| b).testBit x with
  | false => rfl
  | true => rw [e] at hx; simp at hx

theorem fr_le (n a b : Nat) : frN n a b ≤ n := by
  have := List.countP_le_length (p := fun k => !(a ||| b).testBit k) (l := List.range n)
  rw [List.length_range] at this; exact this

theorem fr_zero {n a b : Nat} (h : frN n a b ≤ 0) {k : Nat} (hk : k < n) : (a ||| b).testBit k = true := by
  have h0 : frN n a b = 0 := by omega
  have := List.countP_eq_zero.1 h0 k (List.mem_range.2 hk)
  cases e : (a ||| b).testBit k with
  | true => rfl
  | false => rw [e] at this; exact (this rfl).elim

theorem winF_fuel {R C : Nat} : ∀ (f f' a b t : Nat), frN (R * C) a b ≤ f → frN (R * C) a b ≤ f' → winF R C f a b t = winF R C f' a b t
  | 0, 0, a, b, t, _, _ => rfl
  | 0, f' + 1, a, b, t, h, _ => by
    rw [winF, winF]
    have : ((List.range (R * C)).any fun k => !(a ||| b).testBit k && decide (winF R C f' (putA t k a) (putB t k b) (3 - t) = t)) = false := by
      rw [List.any_eq_false]
      intro k hk
      rw [fr_zero h (List.mem_range.1 hk)]; simp
    rw [this]; rfl
  | f + 1, 0, a, b, t, _, h => by
    rw [winF, winF]
    have : ((List.range (R * C)).any fun k => !(a ||| b).testBit k && decide (winF R C f (putA t k a) (putB t k b) (3 - t) = t)) = false := by
      rw [List.any_eq_false]
      intro k hk
      rw [fr_zero h (List.mem_range.1 hk)]; simp
    rw [this]; rfl
  | f + 1, f' + 1, a, b, t, h, h' => by
    rw [winF, winF]
    have : ((List.range (R * C)).any fun k => !(a ||| b).testBit k && decide (winF R C f (putA t k a) (putB t k b) (3 - t) = t)) = ((List.range (R * C)).any fun k => !(a ||| b).testBit k && decide (winF R C f' (putA t k a) (putB t k b) (3 - t) = t)) := by
      rw [Bool.eq_iff_iff, List.any_eq_true, List.any_eq_true]
      refine exists_congr fun k => and_congr_right fun hk => ?_
      rw [← Bool.eq_iff_iff]
      cases e : (a ||| b).testBit k with
      | true => rfl
      | false =>
        have := fr_put (t := t) (List.mem_range.1 hk) e
        rw [winF_fuel f f' (putA t k a) (putB t k b) (3 - t) (by omega) (by omega)]
    rw [this]

/-- What is asked of a position that nobody has won: is there a move after which the one to move wins? -/
def moveB (R C a b t : Nat) : Bool := (List.range (R * C)).any fun k => !(a ||| b).testBit k && decide (winN R C (putA t k a) (putB t k b) (3 - t) = t)

theorem winN_eq (R C a b t : Nat) : winN R C a b t = if joinsN R C 1 a = true then 1 else if joinsN R C 2 b = true then 2 else if moveB R C a b t = true then t else 3 - t := by
  have h1 : winN R C a b t = winF R C (R * C + 1) a b t := winF_fuel _ _ _ _ _ (fr_le _ _ _) (by have := fr_le (R * C) a b; omega)
  rw [h1, winF]; rfl

theorem moveB_iff {R C a b t : Nat} : moveB R C a b t = true ↔ ∃ k, k < R * C ∧ (a ||| b).testBit k = false ∧ winN R C (putA t k a) (putB t k b) (3 - t) = t := by
  unfold moveB
  rw [List.any_eq_true]
  constructor
  · rintro ⟨k, hk, h⟩
    rw [Bool.and_eq_true, decide_eq_true_eq] at h
    exact ⟨k, List.mem_range.1 hk, by simpa using h.1, h.2⟩
  · rintro ⟨k, hk, h1, h2⟩
    exact ⟨k, List.mem_range.2 hk, by rw [h1, h2]; simp⟩

theorem win_cases {R C a b t : Nat} (ht : t = 1 ∨ t = 2) : winN R C a b t = 1 ∨ winN R C a b t = 2 := by
  rw [winN_eq]
  repeat' split
  all_goals first | exact .inl rfl | exact .inr rfl | omega

/-- A position, by its two sets. -/
def Pos (R C a b : Nat) : Prop := a < 2 ^ (R * C) ∧ b < 2 ^ (R * C) ∧ ∀ j, a.testBit j = true → b.testBit j = true → False

theorem Pos.lt9 {R C a b : Nat} (hB : BoardOf R C) (h : Pos R C a b) : a < 2 ^ 9 ∧ b < 2 ^ 9 := by
  have : 2 ^ (R * C) ≤ 2 ^ 9 := Nat.pow_le_pow_right (by decide) hB.2.2.2.2
  exact ⟨Nat.lt_of_lt_of_le h.1 this, Nat.lt_of_lt_of_le h.2.1 this⟩

theorem Pos.put {R C a b t k : Nat} (h : Pos R C a b) (hk : k < R * C) (hf : (a ||| b).testBit k = false) : Pos R C (putA t k a) (putB t k b) := by
  rw [Nat.testBit_or, Bool.or_eq_false_iff] at hf
  have hl : 1 <<< k < 2 ^ (R * C) := by rw [Nat.one_shiftLeft]; exact Nat.pow_lt_pow_right (by decide) hk
  unfold putA putB
  split
  · refine ⟨Nat.or_lt_two_pow h.1 hl, h.2.1, fun j h1 h2 => ?_⟩
    rw [with_bit, Bool.or_eq_true, decide_eq_true_eq] at h1
    rcases h1 with h1 | rfl
    · exact h.2.2 j h1 h2
    · rw [hf.2] at h2; cases h2
  · refine ⟨h.1, Nat.or_lt_two_pow h.2.1 hl, fun j h1 h2 => ?_⟩
    rw [with_bit, Bool.or_eq_true, decide_eq_true_eq] at h2
    rcases h2 with h2 | rfl
    · exact h.2.2 j h1 h2
    · rw [hf.1] at h1; cases h1

/-- Never have both joined. -/
theorem Pos.both {R C a b : Nat} (hB : BoardOf R C) (h : Pos R C a b) (h1 : joinsN R C 1 a = true) : joinsN R C 2 b = false := by
  cases e : joinsN R C 2 b with
  | false => rfl
  | true =>
    have l9 := h.lt9 hB
    have hc : 2 ^ (R * C) - 1 - a < 2 ^ 9 := by
      have : 2 ^ (R * C) ≤ 2 ^ 9 := Nat.pow_le_pow_right (by decide) hB.2.2.2.2
      omega
    have h2 := joins_mono (P := 2) l9.2 hc (fun j hj => by
      rw [compl_bit h.1]
      have hjn := bit_small h.2.1 hj
      cases ea : a.testBit j with
      | false => simp [hjn]
      | true => exact (h.2.2 j ea hj).elim) e
    have h3 := hex hB (.inl rfl) h.1
    rw [h1, show 3 - 1 = 2 from rfl, h2] at h3
    cases h3

/-- If nobody has joined there is a free cell. -/
theorem Pos.free {R C a b : Nat} (hB : BoardOf R C) (h : Pos R C a b) (h1 : joinsN R C 1 a = false) (h2 : joinsN R C 2 b = false) : ∃ k, k < R * C ∧ (a ||| b).testBit k = false := by
  apply Classical.byContradiction
  intro hn
  have hall : ∀ k, k < R * C → (a ||| b).testBit k = true := fun k hk => by
    cases e : (a ||| b).testBit k with
    | true => rfl
    | false => exact (hn ⟨k, hk, e⟩).elim
  have hb : 2 ^ (R * C) - 1 - a = b := by
    apply Nat.eq_of_testBit_eq
    intro j
    rw [compl_bit h.1]
    by_cases hj : j < R * C
    · have := hall j hj
      rw [Nat.testBit_or, Bool.or_eq_true] at this
      cases ea : a.testBit j with
      | true =>
        cases eb : b.testBit j with
        | false => simp
        | true => exact (h.2.2 j ea eb).elim
      | false =>
        rw [ea] at this
        simp at this
        simp [hj, this]
    · cases eb : b.testBit j with
      | true => exact (hj (bit_small h.2.1 eb)).elim
      | false => simp [hj]
  have h3 := hex hB (.inl rfl) h.1
  rw [show 3 - 1 = 2 from rfl, hb, h1, h2] at h3
  cases h3

theorem win_first {R C a b t : Nat} (h : joinsN R C 1 a = true) : winN R C a b t = 1 := by rw [winN_eq, if_pos h]
theorem win_second {R C a b t : Nat} (hB : BoardOf R C) (hp : Pos R C a b) (h : joinsN R C 2 b = true) : winN R C a b t = 2 := by
  rw [winN_eq, if_neg, if_pos h]
  intro h1; rw [hp.both hB h1] at h; cases h
theorem win_open {R C a b t : Nat} (h1 : joinsN R C 1 a = false) (h2 : joinsN R C 2 b = false) : winN R C a b t = if moveB R C a b t = true then t else 3 - t := by
  rw [winN_eq, if_neg (by rw [h1]; decide), if_neg (by rw [h2]; decide)]

/-- No worse for the first player. -/
def Better (a b a' b' : Nat) : Prop := (∀ j, a.testBit j = true → a'.testBit j = true) ∧ (∀ j, b'.testBit j = true → b.testBit j = true)

theorem better_fr {n a b k : Nat} : Better a b (a ||| (1 <<< k)) b := ⟨fun j hj => by rw [with_bit, hj]; rfl, fun _ h => h⟩

theorem win_mono_aux {R C : Nat} (hB : BoardOf R C) : ∀ (M m a b a' b' t : Nat), frN (R * C) a' b' ≤ M → frN (R * C) a b ≤ m → Pos R C a b → Pos R C a' b' → Better a b a' b' → (t = 1 ∨ t = 2) → winN R C a b t = 1 → winN R C a' b' t = 1 := by
  intro M
  induction M using Nat.strongRecOn with
  | _ M ihM =>
  intro m
  induction m using Nat.strongRecOn with
  | _ m ihm =>
  intro a b a' b' t hM hm hp hp' hbt ht hw
  have l9 := hp.lt9 hB
  have l9' := hp'.lt9 hB
  cases j1' : joinsN R C 1 a' with
  | true => exact win_first j1'
  | false =>
  cases j1 : joinsN R C 1 a with
  | true => rw [joins_mono l9.1 l9'.1 hbt.1 j1] at j1'; cases j1'
  | false =>
  cases j2 : joinsN R C 2 b with
  | true => rw [win_second hB hp j2] at hw; cases hw
  | false =>
  cases j2' : joinsN R C 2 b' with
  | true => rw [joins_mono l9'.2 l9.2 hbt.2 j2'] at j2; cases j2
  | false =>
  obtain ⟨d, hd, hdf⟩ := hp'.free hB j1' j2'
  -- to move never harms, for smaller positions
  have extra : ∀ x y, Pos R C x y → frN (R * C) x y ≤ M → (∀ z, frN (R * C) z y < frN (R * C) x y → Pos R C z y → Better x y z y → winN R C z y 2 = 1) → winN R C x y 2 = 1 → winN R C x y 1 = 1 := by
    intro x y hxy hfr hmono hwx
    cases k1 : joinsN R C 1 x with
    | true => exact win_first k1
    | false =>
    cases k2 : joinsN R C 2 y with
    | true => rw [win_second hB hxy k2] at hwx; cases hwx
    | false =>
    obtain ⟨e, he, hef⟩ := hxy.free hB k1 k2
    rw [win_open k1 k2, if_pos]
    refine moveB_iff.2 ⟨e, he, hef, ?_⟩
    have h1 := fr_put (t := 1) he hef
    exact hmono (x ||| (1 <<< e)) (by exact h1) (hxy.put (t := 1) he hef) (better_fr (n := 0))
  rw [win_open j1 j2] at hw
  rcases ht with rfl | rfl
  · -- the first player to move
    have hmv : moveB R C a b 1 = true := by
      cases e : moveB R C a b 1 with
      | true => rfl
      | false => rw [e] at hw; simp at hw
    obtain ⟨c, hc, hcf, hcw⟩ := moveB_iff.1 hmv
    have hfc := fr_put (t := 1) hc hcf
    have hpc := hp.put (t := 1) hc hcf
    by_cases hc' : (a' ||| b').testBit c = false
    · rw [win_open j1' j2', if_pos]
      refine moveB_iff.2 ⟨c, hc, hc', ?_⟩
      have hfc' := fr_put (t := 1) hc hc'
      refine ihM (frN (R * C) (putA 1 c a') (putB 1 c b')) (by omega) _ (putA 1 c a) (putB 1 c b) _ _ _ (Nat.le_refl _) (Nat.le_refl _) hpc (hp'.put hc hc') ⟨fun j hj => ?_, fun j hj => hbt.2 j hj⟩ (.inr rfl) hcw
      simp only [putA, if_true] at hj ⊢
      rw [with_bit, Bool.or_eq_true] at hj ⊢
      exact hj.imp_left (hbt.1 j)
    · have hca : a'.testBit c = true := by
        rw [Nat.testBit_or] at hc' hcf
        rw [Bool.or_eq_false_iff] at hcf
        cases ea : a'.testBit c with
        | true => rfl
        | false =>
          rw [ea, Bool.false_or] at hc'
          have := hbt.2 c (by simpa using hc')
          rw [hcf.2] at this; cases this
      have hw2 : winN R C a' b' 2 = 1 := by
        refine ihm (frN (R * C) (putA 1 c a) (putB 1 c b)) (by omega) (putA 1 c a) (putB 1 c b) a' b' 2 hM (Nat.le_refl _) hpc hp' ⟨fun j hj => ?_, fun j hj => hbt.2 j hj⟩ (.inr rfl) hcw
        simp only [putA, if_true] at hj
        rw [with_bit, Bool.or_eq_true, decide_eq_true_eq] at hj
        rcases hj with hj | rfl
        · exact hbt.1 j hj
        · exact hca
      exact extra a' b' hp' hM (fun z hz hpz hbz => ihM _ (by omega) _ a' b' z b' 2 (Nat.le_refl _) (Nat.le_refl _) hp' hpz hbz (.inr rfl) hw2) hw2
  · -- the second player to move
    have hmv : moveB R C a b 2 = false := by
      cases e : moveB R C a b 2 with
      | false => rfl
      | true => rw [e] at hw; simp at hw
    have hall : ∀ k, k < R * C → (a ||| b).testBit k = false → winN R C (putA 2 k a) (putB 2 k b) 1 = 1 := fun k hk hkf => by
      rcases win_cases (R := R) (C := C) (a := putA 2 k a) (b := putB 2 k b) (t := 1) (.inl rfl) with h | h
      · exact h
      · rw [moveB_iff.2 ⟨k, hk, hkf, h⟩] at hmv; cases hmv
    have hw' : winN R C a b 2 = 1 := by rw [win_open j1 j2, hmv]; rfl
    rw [win_open j1' j2', if_neg]
    intro hmv'
    obtain ⟨e, he, hef, hew⟩ := moveB_iff.1 hmv'
    have hfe := fr_put (t := 2) he hef
    have hpe := hp'.put (t := 2) he hef
    have hne : winN R C (putA 2 e a') (putB 2 e b') 1 = 1 := by
      by_cases hef2 : (a ||| b).testBit e = false
      · refine ihM (frN (R * C) (putA 2 e a') (putB 2 e b')) (by omega) _ (putA 2 e a) (putB 2 e b) _ _ _ (Nat.le_refl _) (Nat.le_refl _) (hp.put he hef2) hpe ⟨fun j hj => hbt.1 j hj, fun j hj => ?_⟩ (.inl rfl) (hall e he hef2)
        simp only [putB] at hj ⊢
        rw [if_neg (by decide), with_bit, Bool.or_eq_true] at hj ⊢
        exact hj.imp_left (hbt.2 j)
      · have heb : b.testBit e = true := by
          rw [Nat.testBit_or] at hef2 hef
          rw [Bool.or_eq_false_iff] at hef
          cases eb : b.testBit e with
          | true => rfl
          | false =>
            rw [eb, Bool.or_false] at hef2
            have := hbt.1 e (by simpa using hef2)
            rw [hef.1] at this; cases this
        have hbt2 : Better a b (putA 2 e a') (putB 2 e b') := ⟨fun j hj => hbt.1 j hj, fun j hj => by
          simp only [putB] at hj
          rw [if_neg (by decide), with_bit, Bool.or_eq_true, decide_eq_true_eq] at hj
          rcases hj with hj | rfl
          · exact hbt.2 j hj
          · exact heb⟩
        have hw2 : winN R C (putA 2 e a') (putB 2 e b') 2 = 1 :=
          ihM (frN (R * C) (putA 2 e a') (putB 2 e b')) (by omega) _ a b _ _ _ (Nat.le_refl _) (Nat.le_refl _) hp hpe hbt2 (.inr rfl) hw'
        exact extra _ _ hpe (by omega) (fun z hz hpz hbz => ihM _ (by omega) _ _ _ z _ 2 (Nat.le_refl _) (Nat.le_refl _) hpe hpz hbz (.inr rfl) hw2) hw2
    rw [hne] at hew; cases hew

/-- A stone more never harms. -/
theorem win_mono {R C a b a' b' t : Nat} (hB : BoardOf R C) (hp : Pos R C a b) (hp' : Pos R C a' b') (hbt : Better a b a' b') (ht : t = 1 ∨ t = 2) (hw : winN R C a b t = 1) : winN R C a' b' t = 1 :=
  win_mono_aux hB _ _ a b a' b' t (Nat.le_refl _) (Nat.le_refl _) hp hp' hbt ht hw
theorem win_mono2 {R C a b a' b' t : Nat} (hB : BoardOf R C) (hp : Pos R C a b) (hp' : Pos R C a' b') (hbt : Better a b a' b') (ht : t = 1 ∨ t = 2) (hw : winN R C a' b' t = 2) : winN R C a b t = 2 := by
  rcases win_cases (R := R) (C := C) (a := a) (b := b) ht with h | h
  · rw [win_mono hB hp hp' hbt ht h] at hw; cases hw
  · exact h
/-- To move never harms. -/
theorem win_move {R C a b : Nat} (hB : BoardOf R C) (hp : Pos R C a b) (hw : winN R C a b 2 = 1) : winN R C a b 1 = 1 := by
  cases k1 : joinsN R C 1 a with
  | true => exact win_first k1
  | false =>
  cases k2 : joinsN R C 2 b with
  | true => rw [win_second hB hp k2] at hw; cases hw
  | false =>
  obtain ⟨e, he, hef⟩ := hp.free hB k1 k2
  rw [win_open k1 k2, if_pos]
  exact moveB_iff.2 ⟨e, he, hef, win_mono hB hp (hp.put (t := 1) he hef) (better_fr (n := 0)) (.inr rfl) hw⟩
theorem win_move2 {R C a b : Nat} (hB : BoardOf R C) (hp : Pos R C a b) (hw : winN R C a b 1 = 2) : winN R C a b 2 = 2 := by
  rcases win_cases (R := R) (C := C) (a := a) (b := b) (t := 2) (.inr rfl) with h | h
  · rw [win_move hB hp h] at hw; cases hw
  · exact h

/-! ### turned and mirrored -/
/-- Each place is taken by just one. -/
structure Perm (f : Nat → Nat) (n : Nat) : Prop where
  lt : ∀ k, k < n → f k < n
  inj : ∀ i k, i < n → k < n → f i = f k → i = k
  onto : ∀ j, j < n → ∃ k, k < n ∧ f k = j

theorem moved_at {f : Nat → Nat} {S n k : Nat} (hf : Perm f n) (hk : k < n) : (moved f S n).testBit (f k) = S.testBit k := by
  rw [Bool.eq_iff_iff, moved_bit]
  constructor
  · rintro ⟨i, hi, h, e⟩
    rw [hf.inj k i hk hi e]; exact h
  · intro h; exact ⟨k, hk, h, rfl⟩

theorem moved_lt {f : Nat → Nat} {S n : Nat} (hf : Perm f n) : moved f S n < 2 ^ n := by
  apply Nat.lt_pow_two_of_testBit
  intro i hi
  cases e : (moved f S n).testBit i with
  | false => rfl
  | true =>
    obtain ⟨k, hk, _, rfl⟩ := (moved_bit f S n i).1 e
    have := hf.lt k hk
    omega

theorem Pos.moved {R C R' C' a b : Nat} {f : Nat → Nat} (hn : R' * C' = R * C) (hf : Perm f (R * C)) (h : Pos R C a b) : Pos R' C' (moved f a (R * C)) (moved f b (R * C)) := by
  refine ⟨by rw [hn]; exact moved_lt hf, by rw [hn]; exact moved_lt hf, fun j h1 h2 => ?_⟩
  obtain ⟨i, hi, ha, rfl⟩ := (moved_bit _ _ _ _).1 h1
  rw [moved_at hf hi] at h2
  exact h.2.2 i ha h2

end Go.Proofs.YtmhflbomploidaaDoor

/- Rules to walk through a function's plain form with what is to hold in the end: binds, conditions, guards, comparisons, numbers, calls and loops. -/
set_option maxRecDepth 20000
namespace Go.Proofs.YtmhflbomploidaaDoor
open Go Go.Ip G

/-- The result is there, and Q holds of it. -/
def W (x : Res) (Q : PV → PHeap → Prop) : Prop := ∃ v h', x = some (v, h') ∧ Q v h'

section
variable {α : Type} {Q Q' : PV → PHeap → Prop} {P : Program} {t : TypeId} {k : IntKind}

theorem W.ret {v : PV} {h : PHeap} (hq : Q v h) : W (some (v, h)) Q := ⟨v, h, rfl, hq⟩
theorem W.mono {x : Res} (hx : W x Q') (hf : ∀ v h, Q' v h → Q v h) : W x Q := by
  obtain ⟨v, h, e, q⟩ := hx; exact ⟨v, h, e, hf v h q⟩
theorem W.of {x : Res} {v : PV} {h : PHeap} (hx : x = some (v, h)) (hq : Q v h) : W x Q := ⟨v, h, hx, hq⟩
theorem wbd {x : Option α} {v : α} {f : α → Res} (hx : x = some v) (hf : W (f v) Q) : W (x.bind f) Q := by rw [hx]; exact hf
theorem wcall {x : Res} {f : PV × PHeap → Res} (hx : W x Q') (hf : ∀ v h, Q' v h → W (f (v, h)) Q) : W (x.bind f) Q := by
  obtain ⟨v, h, e, q⟩ := hx; rw [e]; exact hf v h q
theorem wT {x y : Res} (h : W x Q) : W (condP (.bool true) x y) Q := h
theorem wF {x y : Res} (h : W y Q) : W (condP (.bool false) x y) Q := h
theorem wg1 {b u : Bool} {x y : Option α} {f : α → Res} (hb : b = u) (hx : W (x.bind f) Q) : W ((wantV (.bool b) u).bind fun v => (bif v then x else y).bind f) Q := by
  subst hb; simpa using hx
theorem wg0 {b u : Bool} {x y : Option α} {f : α → Res} (hb : b = !u) (hy : W (y.bind f) Q) : W ((wantV (.bool b) u).bind fun v => (bif v then x else y).bind f) Q := by
  subst hb; cases u <;> simpa using hy
theorem wgu {u : Bool} {x y : Option α} {f : α → Res} (hy : W (y.bind f) Q) : W ((wantV (.tup []) u).bind fun v => (bif v then x else y).bind f) Q := by simpa using hy
theorem wpT {u v : PV} {f : PV → Res} (h : W (f u) Q) : W ((pickP (.bool true) u v).bind f) Q := h
theorem wpF {u v : PV} {f : PV → Res} (h : W (f v) Q) : W ((pickP (.bool false) u v).bind f) Q := h
theorem wnT {f : PV → Res} (h : W (f (.bool false)) Q) : W ((unP .not (.bool true)).bind f) Q := h
theorem wnF {f : PV → Res} (h : W (f (.bool true)) Q) : W ((unP .not (.bool false)).bind f) Q := h
theorem wpv {x : Option PV} {h : PHeap} {f : PV × PHeap → Res} (hx : W (x.bind fun v => f (v, h)) Q) : W ((pv h x).bind f) Q := by
  cases x <;> exact hx
theorem wsm {v : α} {f : α → Res} (h : W (f v) Q) : W ((some v).bind f) Q := h
theorem wrI {a : Int} {f : PV → Res} (h : W (f (.int k a)) Q) : W ((resV (.int k a)).bind f) Q := h
theorem wrB {a : Bool} {f : PV → Res} (h : W (f (.bool a)) Q) : W ((resV (.bool a)).bind f) Q := h
theorem wrN {f : PV → Res} (h : W (f .nilsl) Q) : W ((resV .nilsl).bind f) Q := h
theorem wrP {i o : Nat} {f : PV → Res} (h : W (f (.ptr i o)) Q) : W ((resV (.ptr i o)).bind f) Q := h
theorem wx0 {a : PV} {l : List PV} {f : PV → Res} (h : W (f a) Q) : W ((extractP (.tup (a :: l)) 0).bind f) Q := h
theorem wx1 {a b : PV} {l : List PV} {f : PV → Res} (h : W (f b) Q) : W ((extractP (.tup (a :: b :: l)) 1).bind f) Q := h
theorem wx2 {a b c : PV} {l : List PV} {f : PV → Res} (h : W (f c) Q) : W ((extractP (.tup (a :: b :: c :: l)) 2).bind f) Q := h
theorem wx3 {a b c d : PV} {l : List PV} {f : PV → Res} (h : W (f d) Q) : W ((extractP (.tup (a :: b :: c :: d :: l)) 3).bind f) Q := h
theorem wx4 {a b c d e : PV} {l : List PV} {f : PV → Res} (h : W (f e) Q) : W ((extractP (.tup (a :: b :: c :: d :: e :: l)) 4).bind f) Q := h
theorem wck {b : Bool} {x : Res} (hb : b = true) (h : W x Q) : W (ckP b x) Q := by rw [hb]; exact h
theorem wptr {i o : Nat} {f : PV → Res} (h : W (f (.ptr i o)) Q) : W ((ptrP (.ptr i o)).bind f) Q := h

/-! ### comparisons -/
section
variable {a b : Int} {f : PV → Res}
theorem wlssT (h : a < b) (hf : W (f (.bool true)) Q) : W ((binP P .lss t (.int k a) (.int k b)).bind f) Q := wbd (by rw [bin_lss, decide_eq_true h]) hf
theorem wlssF (h : ¬ a < b) (hf : W (f (.bool false)) Q) : W ((binP P .lss t (.int k a) (.int k b)).bind f) Q := wbd (by rw [bin_lss, decide_eq_false h]) hf
theorem wleqT (h : a ≤ b) (hf : W (f (.bool true)) Q) : W ((binP P .leq t (.int k a) (.int k b)).bind f) Q := wbd (by rw [bin_leq, decide_eq_true h]) hf
theorem wleqF (h : ¬ a ≤ b) (hf : W (f (.bool false)) Q) : W ((binP P .leq t (.int k a) (.int k b)).bind f) Q := wbd (by rw [bin_leq, decide_eq_false h]) hf
theorem wgtrT (h : b < a) (hf : W (f (.bool true)) Q) : W ((binP P .gtr t (.int k a) (.int k b)).bind f) Q := wbd (by rw [bin_gtr, decide_eq_true h]) hf
theorem wgtrF (h : ¬ b < a) (hf : W (f (.bool false)) Q) : W ((binP P .gtr t (.int k a) (.int k b)).bind f) Q := wbd (by rw [bin_gtr, decide_eq_false h]) hf
theorem wgeqT (h : b ≤ a) (hf : W (f (.bool true)) Q) : W ((binP P .geq t (.int k a) (.int k b)).bind f) Q := wbd (by rw [bin_geq, decide_eq_true h]) hf
theorem wgeqF (h : ¬ b ≤ a) (hf : W (f (.bool false)) Q) : W ((binP P .geq t (.int k a) (.int k b)).bind f) Q := wbd (by rw [bin_geq, decide_eq_false h]) hf
theorem weqlT (h : a = b) (hf : W (f (.bool true)) Q) : W ((binP P .eql t (.int k a) (.int k b)).bind f) Q := wbd (by rw [bin_eql, beq_iff_eq.2 h]) hf
theorem weqlF (h : ¬ a = b) (hf : W (f (.bool false)) Q) : W ((binP P .eql t (.int k a) (.int k b)).bind f) Q := wbd (by rw [bin_eql, beq_eq_false_iff_ne.2 h]) hf
theorem wneqT (h : ¬ a = b) (hf : W (f (.bool true)) Q) : W ((binP P .neq t (.int k a) (.int k b)).bind f) Q := wbd (by rw [bin_neq, bne, beq_eq_false_iff_ne.2 h]; rfl) hf
theorem wneqF (h : a = b) (hf : W (f (.bool false)) Q) : W ((binP P .neq t (.int k a) (.int k b)).bind f) Q := wbd (by rw [bin_neq, bne, beq_iff_eq.2 h]; rfl) hf
theorem wgtr (h1 : b < a → W (f (.bool true)) Q) (h2 : ¬ b < a → W (f (.bool false)) Q) : W ((binP P .gtr t (.int k a) (.int k b)).bind f) Q := by
  by_cases e : b < a
  · exact wgtrT e (h1 e)
  · exact wgtrF e (h2 e)
theorem weql (h1 : a = b → W (f (.bool true)) Q) (h2 : ¬ a = b → W (f (.bool false)) Q) : W ((binP P .eql t (.int k a) (.int k b)).bind f) Q := by
  by_cases e : a = b
  · exact weqlT e (h1 e)
  · exact weqlF e (h2 e)
theorem wneq (h1 : ¬ a = b → W (f (.bool true)) Q) (h2 : a = b → W (f (.bool false)) Q) : W ((binP P .neq t (.int k a) (.int k b)).bind f) Q := by
  by_cases e : a = b
  · exact wneqF e (h2 e)
  · exact wneqT e (h1 e)
end

/-! ### numbers -/
section
variable {a b : Int} {x y : Nat} {f : PV → Res}
theorem wadd (h : -4611686018427387904 ≤ a + b ∧ a + b ≤ 4611686018427387904) (hf : W (f (.int .i64 (a + b))) Q) : W ((binP P .add t (.int .i64 a) (.int .i64 b)).bind f) Q := wbd (by rw [bin_add, wr (by omega)]) hf
theorem wsub (h : -4611686018427387904 ≤ a - b ∧ a - b ≤ 4611686018427387904) (hf : W (f (.int .i64 (a - b))) Q) : W ((binP P .sub t (.int .i64 a) (.int .i64 b)).bind f) Q := wbd (by rw [bin_sub, wr (by omega)]) hf
theorem wmul (h : -4611686018427387904 ≤ a * b ∧ a * b ≤ 4611686018427387904) (hf : W (f (.int .i64 (a * b))) Q) : W ((binP P .mul t (.int .i64 a) (.int .i64 b)).bind f) Q := wbd (by rw [bin_mul, wr (by omega)]) hf
theorem wadd1 (h : x < 4611686018427387904) (hf : W (f (.int .i64 ((x + 1 : Nat) : Int))) Q) : W ((binP P .add t (.int .i64 (x : Int)) (.int .i64 1)).bind f) Q := wbd (by rw [bin_add, wr (by omega)]; rfl) hf
theorem wsub1 (h : 1 ≤ x) (h2 : x < 4611686018427387904) (hf : W (f (.int .i64 ((x - 1 : Nat) : Int))) Q) : W ((binP P .sub t (.int .i64 (x : Int)) (.int .i64 1)).bind f) Q := wbd (by rw [bin_sub, wr (by omega), show (x : Int) - 1 = ((x - 1 : Nat) : Int) by omega]) hf
theorem wmulN (h : x * y < 4611686018427387904) (hf : W (f (.int .i64 ((x * y : Nat) : Int))) Q) : W ((binP P .mul t (.int .i64 (x : Int)) (.int .i64 (y : Int))).bind f) Q := wbd (by rw [bin_mul, ← Int.natCast_mul, wr (by omega)]) hf
end
end

section
variable {Q : PV → PHeap → Prop} {x y : Nat} {f : PV → Res}
theorem wquoN (h : 1 ≤ y) (h2 : x < 4611686018427387904) (hf : W (f (.int .i64 ((x / y : Nat) : Int))) Q) : W ((binP Tryd.prog .quo 3 (.int .i64 (x : Int)) (.int .i64 (y : Int))).bind f) Q :=
  wbd (by rw [bin_quo (by omega), ← Int.ofNat_tdiv, wr (by have := Nat.div_le_self x y; generalize x / y = z at this ⊢; omega)]) hf
theorem wremN (h : 1 ≤ y) (hf : W (f (.int .i64 ((x % y : Nat) : Int))) Q) : W ((binP Tryd.prog .rem 3 (.int .i64 (x : Int)) (.int .i64 (y : Int))).bind f) Q := wbd (f_rem x y h) hf
theorem wrem2 (hf : W (f (.int .i64 ((x % 2 : Nat) : Int))) Q) : W ((binP Tryd.prog .rem 3 (.int .i64 (x : Int)) (.int .i64 2)).bind f) Q := wbd (f_rem x 2 (by decide)) hf
theorem wshl (h : y ≤ 30) (hf : W (f (.int .i64 ((1 <<< y : Nat) : Int))) Q) : W ((binP Tryd.prog .shl 3 (.int .i64 1) (.int .i64 (y : Int))).bind f) Q := wbd (f_shl y h) hf
theorem wshr (h : y ≤ 60) (hf : W (f (.int .i64 ((x >>> y : Nat) : Int))) Q) : W ((binP Tryd.prog .shr 3 (.int .i64 (x : Int)) (.int .i64 (y : Int))).bind f) Q := wbd (f_shr x y h) hf
theorem wand (hx : x < 2 ^ 62) (hy : y < 2 ^ 62) (hf : W (f (.int .i64 ((x &&& y : Nat) : Int))) Q) : W ((binP Tryd.prog .and 3 (.int .i64 (x : Int)) (.int .i64 (y : Int))).bind f) Q := wbd (f_and hx hy) hf
theorem wor (hx : x < 2 ^ 62) (hy : y < 2 ^ 62) (hf : W (f (.int .i64 ((x ||| y : Nat) : Int))) Q) : W ((binP Tryd.prog .or 3 (.int .i64 (x : Int)) (.int .i64 (y : Int))).bind f) Q := wbd (f_or hx hy) hf

/-- What is in x, and not in y. -/
def minusN (x y : Nat) : Nat := x ^^^ (x &&& y)
theorem minusN_bit (x y j : Nat) : (minusN x y).testBit j = (x.testBit j && !y.testBit j) := by
  unfold minusN; rw [Nat.testBit_xor, Nat.testBit_and]; cases x.testBit j <;> cases y.testBit j <;> rfl
theorem minusN_lt {x y n : Nat} (hx : x < 2 ^ n) : minusN x y < 2 ^ n := Nat.lt_of_le_of_lt (sub_le fun j hj => by rw [minusN_bit, Bool.and_eq_true] at hj; exact hj.1) hx
theorem minusN_one (x k : Nat) : minusN x (1 <<< k) = without x k := rfl

theorem f_andNot (hx : x < 2 ^ 62) (hy : y < 2 ^ 62) : binP Tryd.prog .andNot 3 (.int .i64 (x : Int)) (.int .i64 (y : Int)) = some (.int .i64 ((minusN x y : Nat) : Int)) := by
  have e1 : BitVec.ofInt 64 (x : Int) = BitVec.ofNat 64 x := by rw [BitVec.ofInt_natCast]
  have e2 : BitVec.ofInt 64 (y : Int) = BitVec.ofNat 64 y := by rw [BitVec.ofInt_natCast]
  have e3 : (BitVec.ofNat 64 x &&& ~~~(BitVec.ofNat 64 y)).toNat = minusN x y := by
    apply Nat.eq_of_testBit_eq
    intro j
    rw [minusN_bit, ← BitVec.getLsbD, BitVec.getLsbD_and, BitVec.getLsbD_not, BitVec.getLsbD_ofNat, BitVec.getLsbD_ofNat]
    by_cases hj : j < 64
    · simp [hj]
    · have : x.testBit j = false := Nat.testBit_lt_two_pow (Nat.lt_of_lt_of_le hx (Nat.pow_le_pow_right (by decide) (by omega)))
      simp [hj, this]
  show binI .andNot .i64 (x : Int) (y : Int) = _
  have hl : minusN x y < 2 ^ 62 := minusN_lt hx
  show some (PV.int .i64 (IntKind.i64.wrap ((BitVec.ofInt 64 (x : Int) &&& ~~~(BitVec.ofInt 64 (y : Int))).toNat))) = _
  rw [e1, e2, e3, wr (by omega)]
theorem wandNot (hx : x < 2 ^ 62) (hy : y < 2 ^ 62) (hf : W (f (.int .i64 ((minusN x y : Nat) : Int))) Q) : W ((binP Tryd.prog .andNot 3 (.int .i64 (x : Int)) (.int .i64 (y : Int))).bind f) Q := wbd (f_andNot hx hy) hf

/-! ### slices of integers -/
variable {h : PHeap} {p : PV} {xs : List Int}
theorem wlen (s : IntSl .i64 h p xs) (hf : W (f (.int .i64 (xs.length : Int))) Q) : W ((lenP Tryd.prog 23 p).bind f) Q := wbd s.len' hf
/-- An element is read. -/
theorem wat (s : IntSl .i64 h p xs) {i : Nat} (hi : i < xs.length) (hf : ∀ a, loadP Tryd.prog 3 a h = some (.int .i64 xs[i]) → W (f a) Q) : W ((indexAddrP Tryd.prog 23 p (.int .i64 (i : Int))).bind f) Q := by
  obtain ⟨a, e, l⟩ := s.at' hi; exact wbd e (hf a l)
theorem wresO {n : Nat} (s : OwnSl n h p xs) (hf : W (f p) Q) : W ((resV p).bind f) Q := wbd s.res hf
/-- An element is written. -/
theorem wst {n i : Nat} (s : OwnSl n h p xs) (hi : i < xs.length) {x : Int} {F : PV → PHeap → Res}
    (hf : ∀ h', OwnSl n h' p (xs.set i x) → Keep n h h' → h'.length = h.length → ∀ a, storeP Tryd.prog 3 a (.int .i64 x) h = some h' → W (F a h') Q) :
    W ((indexAddrP Tryd.prog 23 p (.int .i64 (i : Int))).bind fun a => (storeP Tryd.prog 3 a (.int .i64 x) h).bind fun h' => F a h') Q := by
  obtain ⟨a, h', e1, e2, o, k, l⟩ := s.store hi x
  refine wbd e1 ?_
  show W ((storeP Tryd.prog 3 a (.int .i64 x) h).bind fun h' => F a h') Q
  exact wbd e2 (hf h' o k l a e2)
/-- One element is appended. -/
theorem wap {n : Nat} (s : OwnSl n h p xs) (hn : n ≤ h.length) {x : Int} (hl : xs.length + 1 ≤ 2 ^ 36) {F : PV × PHeap → Res}
    (hf : ∀ p' h', OwnSl n h' p' (xs ++ [x]) → Keep n h h' → W (F (p', h')) Q) :
    W ((buildSliceP Tryd.prog 23 1 [(0, .int .i64 x)] h).bind fun v => (appendP Tryd.prog 23 23 p v.1 v.2).bind F) Q := by
  obtain ⟨v, p', h', e1, e2, o, k⟩ := s.append hn x hl
  exact wbd e1 (wbd e2 (hf p' h' o k))
/-- A slice is made. -/
theorem wmake {m : Nat} (hm : m ≤ 2 ^ 36) {F : PV × PHeap → Res} (hf : ∀ p h', OwnSl h.length h' p (List.replicate m 0) → Keep h.length h h' → W (F (p, h')) Q) :
    W ((makeP Tryd.prog 23 (.int .i64 (m : Int)) (.int .i64 (m : Int)) h).bind F) Q := by
  obtain ⟨p, h', e, o, k⟩ := made (h := h) hm; exact wbd e (hf p h' o k)
theorem wempty {F : PV × PHeap → Res} (hf : ∀ p h', OwnSl h.length h' p [] → Keep h.length h h' → W (F (p, h')) Q) : W ((buildSliceP Tryd.prog 23 0 [] h).bind F) Q := by
  obtain ⟨p, h', e, o, k⟩ := empty_lit (h := h); exact wbd e (hf p h' o k)
end

/-! ### loops -/
theorem loopW {f : St → (PX → St → Res) → Res} {k : PX → St → Res} {Q : PV → PHeap → Prop} (I : Nat → St → Prop)
    (step : ∀ n m s, I m s → (∀ m' s', m' < m → I m' s' → W (kLoop f n k .normal s') Q) → W (f s (kLoop f n k)) Q) : ∀ (fuel m : Nat) (s : St), m < fuel → I m s → W (loopK f fuel s k) Q
  | 0, m, s, hm, _ => by omega
  | n + 1, m, s, hm, hI => by
    rw [loopK_succ]
    exact step n m s hI fun m' s' hm' hI' => by rw [kLoop_normal]; exact loopW I step n m' s' (by omega) hI'

/-- A list that whatever changes behind mark b leaves as it is. -/
def Fix (b : Nat) (h : PHeap) (p : PV) (xs : List Int) : Prop := ∀ h', Keep b h h' → IntSl .i64 h' p xs
theorem Fix.now {b : Nat} {h : PHeap} {p : PV} {xs : List Int} (s : Fix b h p xs) : IntSl .i64 h p xs := s h (Keep.refl _ _)
theorem Fix.keep {b : Nat} {h h' : PHeap} {p : PV} {xs : List Int} (s : Fix b h p xs) (k : Keep b h h') : Fix b h' p xs := fun h2 k2 => s h2 (k.trans k2)
theorem IntSl.fix {h : PHeap} {p : PV} {xs : List Int} (s : IntSl .i64 h p xs) : Fix h.length h p xs := fun _ k => s.keep k
theorem Fix.mono {b b' : Nat} {h : PHeap} {p : PV} {xs : List Int} (s : Fix b h p xs) (hb : b ≤ b') : Fix b' h p xs := fun h2 k2 => s h2 (k2.mono hb)

end Go.Proofs.YtmhflbomploidaaDoor

/- The laws of chapter 2 over what the program's functions are asked to compute: the draws, the exact laws, and promise 9. -/
set_option maxRecDepth 20000
namespace Go.Proofs.YtmhflbomploidaaDoor
open Go Go.Ip G

/-- What the program's functions may read besides: the table of steps, where there is one. -/
def TabOk (g : Nat → PV) (h : PHeap) : Prop := Tab g h ∧ Tab64 g h
theorem TabOk.keep {g : Nat → PV} {h h' : PHeap} (t : TabOk g h) (k : Keep h.length h h') : TabOk g h' := ⟨Tab.keep t.1 k, Tab64.keep t.2 k⟩

/-- What is asked of the program's functions of chapter 2. -/
def JoinsOk (g : Nat → PV) (lf : Nat) : Prop := ∀ (N : Nat), 20 ≤ N → ∀ (r c pl : Int) {xs : List Int} {p : PV} {h : PHeap}, TabOk g h → IntSl .i64 h p xs → xs.length ≤ 2 ^ 35 → xs.length < lf →
  ∃ h', CL g lf N fn_impl_Joins [.int .i64 r, .int .i64 c, p, .int .i64 pl] h = some (.bool (joinsL r c xs pl), h') ∧ Keep h.length h h'
variable (g : Nat → PV) (lf n : Nat)

/-! ### the exact laws -/
/-! ### the draws -/
end Go.Proofs.YtmhflbomploidaaDoor

/- Promises 11, 12, 13 and 14 over what the program's functions are asked to compute. -/
set_option maxRecDepth 20000
namespace Go.Proofs.YtmhflbomploidaaDoor
open Go Go.Ip G

/-! ### more facts on positions -/
theorem range_count (w : Int) : ∀ (xs : List Int) (n : Nat), xs.length ≤ n → (List.range n).countP (fun j => decide (xs[j]? = some w)) = xs.count w
  | [], n, _ => by
    rw [List.count_nil, List.countP_eq_zero]
    intro j _; simp
  | x :: xs, n, h => by
    obtain ⟨m, rfl⟩ : ∃ m, n = m + 1 := ⟨n - 1, by simp at h; omega⟩
    rw [List.range_succ_eq_map, List.countP_cons, List.countP_map, List.count_cons]
    have ih := range_count w xs m (by simpa using h)
    have : ((fun j => decide ((x :: xs)[j]? = some w)) ∘ Nat.succ) = fun j => decide (xs[j]? = some w) := by
      funext j; simp
    rw [this, ih]
    congr 1
    by_cases e : x = w <;> simp [e]

theorem pop_count {xs : List Int} (h : xs.length ≤ 9) (w : Int) : pop (setL xs w) = xs.count w := by
  rw [← range_count w xs 9 h]
  unfold pop
  apply List.countP_congr
  intro j _
  rw [setL_bit, decide_eq_true_iff]

theorem pos_set {R C P : Nat} {xs : List Int} (hb : posB (R : Int) (C : Int) xs = true) (hP : P = 1 ∨ P = 2) (k : Nat) : posB (R : Int) (C : Int) (xs.set k (P : Int)) = true := by
  unfold posB at hb ⊢
  rw [List.length_set]
  rw [Bool.and_eq_true] at hb ⊢
  refine ⟨hb.1, ?_⟩
  rw [List.all_eq_true]
  intro x hx
  rcases List.mem_or_eq_of_mem_set hx with hx | rfl
  · exact List.all_eq_true.1 hb.2 x hx
  · rcases hP with rfl | rfl <;> rfl

variable (g : Nat → PV) (lf n : Nat)

/-! ### promise 12 -/
end Go.Proofs.YtmhflbomploidaaDoor

/- Promises 13 and 14 over what the program's functions are asked to compute. -/
set_option maxRecDepth 20000
namespace Go.Proofs.YtmhflbomploidaaDoor
open Go Go.Ip G

/-! ### the cells that close a gap -/
variable (g : Nat → PV) (lf n : Nat)

/-! ### gaps of free boards, and mirrored -/
end Go.Proofs.YtmhflbomploidaaDoor

/- Promises 10 and 15 over what the program's functions are asked to compute. -/
set_option maxRecDepth 20000
namespace Go.Proofs.YtmhflbomploidaaDoor
open Go Go.Ip G

/-! ### lists of sets -/
theorem listFrom_mem (S : Nat) (e : Int) : ∀ (m k : Nat), e ∈ listFrom S m k ↔ ∃ j : Nat, e = (j : Int) ∧ k ≤ j ∧ j < k + m ∧ S.testBit j = true
  | 0, k => by
    rw [listFrom]
    constructor
    · intro h; simp at h
    · rintro ⟨j, _, h1, h2, _⟩; omega
  | m + 1, k => by
    have ih := listFrom_mem S e m (k + 1)
    rw [listFrom]
    by_cases hb : S >>> k % 2 = 1
    · rw [if_pos hb, List.mem_cons, ih]
      constructor
      · rintro (h | ⟨j, h1, h2, h3, h4⟩)
        · exact ⟨k, h, Nat.le_refl _, by omega, (bit_iff S k).1 hb⟩
        · exact ⟨j, h1, by omega, by omega, h4⟩
      · rintro ⟨j, h1, h2, h3, h4⟩
        by_cases e2 : j = k
        · exact .inl (by rw [h1, e2])
        · exact .inr ⟨j, h1, by omega, by omega, h4⟩
    · rw [if_neg hb, ih]
      constructor
      · rintro ⟨j, h1, h2, h3, h4⟩
        exact ⟨j, h1, by omega, by omega, h4⟩
      · rintro ⟨j, h1, h2, h3, h4⟩
        by_cases e2 : j = k
        · subst e2; exact absurd ((bit_iff S j).2 h4) hb
        · exact ⟨j, h1, by omega, by omega, h4⟩

theorem listN_mem {S : Nat} (hS : S < 2 ^ 9) (e : Int) : e ∈ listN S ↔ ∃ j : Nat, e = (j : Int) ∧ S.testBit j = true := by
  unfold listN
  rw [listFrom_mem]
  constructor
  · rintro ⟨j, h1, _, _, h4⟩; exact ⟨j, h1, h4⟩
  · rintro ⟨j, h1, h4⟩; exact ⟨j, h1, Nat.zero_le _, by have := bit_small hS h4; omega, h4⟩

theorem listFrom_sorted (S : Nat) : ∀ (m k : Nat), (listFrom S m k).Pairwise (· < ·)
  | 0, _ => List.Pairwise.nil
  | m + 1, k => by
    have ih := listFrom_sorted S m (k + 1)
    rw [listFrom]
    split
    · refine List.pairwise_cons.2 ⟨fun e he => ?_, ih⟩
      obtain ⟨j, h1, h2, _, _⟩ := (listFrom_mem S e m (k + 1)).1 he
      omega
    · exact ih

theorem listN_sorted (S : Nat) : ∀ i (hi : i + 1 < (listN S).length), (listN S)[i] < (listN S)[i + 1] := fun i hi =>
  List.pairwise_iff_getElem.1 (listFrom_sorted S 9 0) i (i + 1) (by have : i + 1 < (listN S).length := hi; unfold listN at this; omega) hi (by omega)

/-! ### masks -/
def maskOkB (R C : Nat) : Bool :=
  (masksN R C).all (fun m => decide (m < 2 ^ (R * C))) && ((List.range (R * C)).all fun k => (List.range (R * C)).all fun j =>
    (((masksN R C).getD k 0).testBit j == ((masksN R C).getD j 0).testBit k) && (((masksN R C).getD k 0).testBit j == decide ((j : Int) ∈ nearN R C k)))
theorem maskOk_all : (boards.all fun b => maskOkB b.1 b.2) = true := by kernel_rfl

theorem adj_in {R C k j : Nat} (hB : BoardOf R C) (h : Adj (masksN R C) k j) : k < R * C ∧ j < R * C := by
  unfold Adj at h
  have hk : k < (masksN R C).length := by
    rcases Nat.lt_or_ge k (masksN R C).length with hlt | hge
    · exact hlt
    · rw [List.getD_eq_getElem?_getD, List.getElem?_eq_none hge] at h
      simp at h
  have hm := List.all_eq_true.1 maskOk_all (R, C) (board_mem hB)
  unfold maskOkB at hm
  rw [Bool.and_eq_true] at hm
  rw [List.getD_eq_getElem?_getD, List.getElem?_eq_getElem hk] at h
  have := List.all_eq_true.1 hm.1 _ (List.getElem_mem hk)
  have := of_decide_eq_true this
  exact ⟨by rw [masksN_length] at hk; exact hk, bit_small this h⟩

/-! ### groups -/
variable (g : Nat → PV) (lf n : Nat)

theorem loadAt {xs : List Int} {p a : PV} {h : PHeap} {i : Nat} (hp : IntSl .i64 h p xs) (hi : i < xs.length) (ha : indexAddrP Tryd.prog 23 p (.int .i64 (i : Int)) = some a) : loadP Tryd.prog 3 a h = some (.int .i64 xs[i]) := by
  obtain ⟨a', ha', hla⟩ := hp.at' hi
  obtain rfl : a = a' := Option.some.inj (ha.symm.trans ha')
  exact hla

end Go.Proofs.YtmhflbomploidaaDoor

/- Promise 15 over what the program's functions are asked to compute. -/
set_option maxRecDepth 20000
namespace Go.Proofs.YtmhflbomploidaaDoor
open Go Go.Ip G

/-! ### sides -/
variable (g : Nat → PV) (lf n : Nat)

end Go.Proofs.YtmhflbomploidaaDoor

/- What chapter 3's functions tell of a position (moveL, playedL, winL, winCellsL, lineL), and what holds of them. No program text. -/
set_option maxRecDepth 20000
namespace Go.Proofs.YtmhflbomploidaaDoor
open Go Go.Ip G

def moveL (r c : Int) (xs : List Int) (k pl : Int) : Bool := posB r c xs && playerB pl && decide (0 ≤ k ∧ k < (xs.length : Int)) && decide (xs.getD k.toNat 0 = 0) && !joinsL r c xs 1 && !joinsL r c xs 2
def winL (r c : Int) (xs : List Int) (t : Int) : Int := if (posB r c xs && playerB t) = true then ((winN r.toNat c.toNat (setL xs 1) (setL xs 2) t.toNat : Nat) : Int) else 0
def winsB (r c : Int) (xs : List Int) (pl : Int) (k : Nat) : Bool := moveL r c xs (k : Int) pl && decide (winL r c (xs.set k pl) (3 - pl) = pl)
def winCellsL (r c : Int) (xs : List Int) (pl : Int) : List Int := ((List.range xs.length).filter (winsB r c xs pl)).map fun k : Nat => (k : Int)
/-! ### none -/
theorem playerB_of {P : Nat} (hP : P = 1 ∨ P = 2) : playerB (P : Int) = true := by rcases hP with rfl | rfl <;> rfl
theorem playerB_none {pl : Int} (h : 2 < pl) : playerB pl = false := by unfold playerB; exact decide_eq_false (by omega)
theorem moveL_none {r c : Int} {xs : List Int} {k pl : Int} (h : posB r c xs = false ∨ 2 < pl) : moveL r c xs k pl = false := by
  unfold moveL
  rcases h with h | h
  · rw [h]; rfl
  · rw [playerB_none h]; simp
theorem winL_none {r c : Int} {xs : List Int} {pl : Int} (h : posB r c xs = false ∨ 2 < pl) : winL r c xs pl = 0 := by
  unfold winL
  rw [if_neg]
  rcases h with h | h
  · rw [h]; simp
  · rw [playerB_none h]; simp
theorem winCellsL_none {r c : Int} {xs : List Int} {pl : Int} (h : posB r c xs = false ∨ 2 < pl) : winCellsL r c xs pl = [] := by
  unfold winCellsL
  rw [List.filter_eq_nil_iff.2 fun k _ => by unfold winsB; rw [moveL_none h]; simp]
  rfl
theorem winCellsL_length (r c : Int) (xs : List Int) (t : Int) : (winCellsL r c xs t).length ≤ xs.length := by
  unfold winCellsL
  rw [List.length_map]
  have := List.length_filter_le (winsB r c xs t) (List.range xs.length)
  rw [List.length_range] at this; exact this
/-! ### sets -/
section
variable {R C : Nat} {xs : List Int} (hb : posB (R : Int) (C : Int) xs = true) (hS : Sides (R : Int) (C : Int) R C xs)
include hS
theorem pos_sets : Pos R C (setL xs 1) (setL xs 2) :=
  ⟨set_lt hS 1, set_lt hS 2, fun j h1 h2 => by
    rw [setL_bit] at h1 h2; rw [h1] at h2; exact absurd (Option.some.inj h2) (by decide)⟩
theorem free_bit {k : Nat} (hk : k < R * C) : (setL xs 1 ||| setL xs 2).testBit k = false ↔ xs[k]? = some 0 := by
  rw [Nat.testBit_or, Bool.or_eq_false_iff]
  have e1 : (setL xs 1).testBit k = false ↔ ¬ xs[k]? = some 1 := by rw [← setL_bit]; simp
  have e2 : (setL xs 2).testBit k = false ↔ ¬ xs[k]? = some 2 := by rw [← setL_bit]; simp
  rw [e1, e2]
  rcases content_cases hS hk with h | h | h <;> rw [h] <;> simp
omit hS
theorem set_putA {P k : Nat} (hP : P = 1 ∨ P = 2) (hk : xs[k]? = some 0) : setL (xs.set k (P : Int)) 1 = putA P k (setL xs 1) ∧ setL (xs.set k (P : Int)) 2 = putB P k (setL xs 2) := by
  have hkl : k < xs.length := (List.getElem?_eq_some_iff.1 hk).1
  rcases hP with rfl | rfl
  · refine ⟨Nat.eq_of_testBit_eq fun j => ?_, Nat.eq_of_testBit_eq fun j => ?_⟩
    · show _ = (setL xs 1 ||| (1 <<< k)).testBit j
      rw [with_bit, Bool.eq_iff_iff, Bool.or_eq_true, decide_eq_true_iff, setL_bit, setL_bit, List.getElem?_set]
      by_cases e : k = j
      · subst e; simp [hkl]
      · rw [if_neg e]; exact ⟨.inl, fun h => h.resolve_right fun h2 => e h2.symm⟩
    · show _ = (setL xs 2).testBit j
      rw [Bool.eq_iff_iff, setL_bit, setL_bit, List.getElem?_set]
      by_cases e : k = j
      · subst e; rw [hk]; simp [hkl]
      · rw [if_neg e]
  · refine ⟨Nat.eq_of_testBit_eq fun j => ?_, Nat.eq_of_testBit_eq fun j => ?_⟩
    · show _ = (setL xs 1).testBit j
      rw [Bool.eq_iff_iff, setL_bit, setL_bit, List.getElem?_set]
      by_cases e : k = j
      · subst e; rw [hk]; simp [hkl]
      · rw [if_neg e]
    · show _ = (setL xs 2 ||| (1 <<< k)).testBit j
      rw [with_bit, Bool.eq_iff_iff, Bool.or_eq_true, decide_eq_true_iff, setL_bit, setL_bit, List.getElem?_set]
      by_cases e : k = j
      · subst e; simp [hkl]
      · rw [if_neg e]; exact ⟨.inl, fun h => h.resolve_right fun h2 => e h2.symm⟩
include hb
theorem joins_one : joinsL (R : Int) (C : Int) xs 1 = joinsN R C 1 (setL xs 1) := joinsL_eq (P := 1) hb (.inl rfl)
theorem joins_two : joinsL (R : Int) (C : Int) xs 2 = joinsN R C 2 (setL xs 2) := joinsL_eq (P := 2) hb (.inr rfl)
theorem winL_eq {T : Nat} (hT : T = 1 ∨ T = 2) : winL (R : Int) (C : Int) xs (T : Int) = ((winN R C (setL xs 1) (setL xs 2) T : Nat) : Int) := by
  unfold winL; rw [hb, playerB_of hT]; rfl
theorem winL_set {P T k : Nat} (hP : P = 1 ∨ P = 2) (hT : T = 1 ∨ T = 2) (hk : xs[k]? = some 0) : winL (R : Int) (C : Int) (xs.set k (P : Int)) (T : Int) = ((winN R C (putA P k (setL xs 1)) (putB P k (setL xs 2)) T : Nat) : Int) := by
  rw [winL_eq (pos_set hb hP k) hT, (set_putA hP hk).1, (set_putA hP hk).2]
theorem winL_cases {T : Nat} (hT : T = 1 ∨ T = 2) : ∃ W : Nat, winL (R : Int) (C : Int) xs (T : Int) = (W : Int) ∧ (W = 1 ∨ W = 2) := ⟨_, winL_eq hb hT, win_cases hT⟩
include hS
theorem winL_done {P T : Nat} (hP : P = 1 ∨ P = 2) (hT : T = 1 ∨ T = 2) (hj : joinsL (R : Int) (C : Int) xs (P : Int) = true) : winL (R : Int) (C : Int) xs (T : Int) = (P : Int) := by
  rw [winL_eq hb hT]
  rcases hP with rfl | rfl
  · rw [win_first]; rw [← joins_one hb]; exact hj
  · rw [win_second (board_of_sides hS) (pos_sets hS)]; rw [← joins_two hb]; exact hj
theorem winL_open {T : Nat} (hT : T = 1 ∨ T = 2) (h1 : joinsL (R : Int) (C : Int) xs 1 = false) (h2 : joinsL (R : Int) (C : Int) xs 2 = false) : winL (R : Int) (C : Int) xs (T : Int) = (T : Int) ↔ ∃ k : Nat, xs[k]? = some 0 ∧ winL (R : Int) (C : Int) (xs.set k (T : Int)) (3 - (T : Int)) = (T : Int) := by
  have hlen : xs.length = R * C := hS.2.2.2.2.2.2.2.1
  have hT' : 3 - T = 1 ∨ 3 - T = 2 := by omega
  have e3 : (3 : Int) - (T : Int) = ((3 - T : Nat) : Int) := by omega
  rw [winL_eq hb hT, win_open (by rw [← joins_one hb]; exact h1) (by rw [← joins_two hb]; exact h2)]
  have : (((if moveB R C (setL xs 1) (setL xs 2) T = true then T else 3 - T : Nat) : Int) = (T : Int)) ↔ moveB R C (setL xs 1) (setL xs 2) T = true := by
    cases moveB R C (setL xs 1) (setL xs 2) T
    · simp only [Bool.false_eq_true, ↓reduceIte]; rcases hT with rfl | rfl <;> decide
    · simp only [↓reduceIte]
  rw [this, moveB_iff]
  constructor
  · rintro ⟨k, hk, hf, hw⟩
    have hk0 := (free_bit hS hk).1 hf
    exact ⟨k, hk0, by rw [e3, winL_set hb hT hT' hk0, hw]⟩
  · rintro ⟨k, hk0, hw⟩
    have hk : k < R * C := by rw [← hlen]; exact (List.getElem?_eq_some_iff.1 hk0).1
    rw [e3, winL_set hb hT hT' hk0] at hw
    exact ⟨k, hk, (free_bit hS hk).2 hk0, Int.ofNat_inj.1 hw⟩
theorem winL_first {T W : Nat} (hT : T = 1 ∨ T = 2) (hW : W = 1 ∨ W = 2) (hw : winL (R : Int) (C : Int) xs (T : Int) = (W : Int)) : winL (R : Int) (C : Int) xs (W : Int) = (W : Int) := by
  have hB := board_of_sides hS
  have hp := pos_sets hS
  rw [winL_eq hb hT] at hw
  have hw' : winN R C (setL xs 1) (setL xs 2) T = W := by omega
  rw [winL_eq hb hW]
  rcases hT with rfl | rfl <;> rcases hW with rfl | rfl
  · rw [hw']
  · rw [win_move2 hB hp hw']
  · rw [win_move hB hp hw']
  · rw [hw']
end

/-! ### turned, mirrored -/
section
variable {R C : Nat} {xs : List Int} (hb : posB (R : Int) (C : Int) xs = true) (hS : Sides (R : Int) (C : Int) R C xs)
include hb hS
end

/-! ### moves -/
theorem moveL_iff {r c : Int} {xs : List Int} {pl : Int} {k : Nat} : moveL r c xs (k : Int) pl = true ↔ posB r c xs = true ∧ playerB pl = true ∧ xs[k]? = some 0 ∧ joinsL r c xs 1 = false ∧ joinsL r c xs 2 = false := by
  unfold moveL
  simp only [Bool.and_eq_true, Bool.not_eq_true', decide_eq_true_eq]
  constructor
  · rintro ⟨⟨⟨⟨⟨h1, h2⟩, h3⟩, h4⟩, h5⟩, h6⟩
    have hk : k < xs.length := by omega
    refine ⟨h1, h2, ?_, h5, h6⟩
    rw [List.getElem?_eq_getElem hk]
    have : xs.getD k 0 = xs[k] := by rw [List.getD_eq_getElem?_getD, List.getElem?_eq_getElem hk]; rfl
    rw [← this]
    exact congrArg some h4
  · rintro ⟨h1, h2, h3, h5, h6⟩
    have hk : k < xs.length := (List.getElem?_eq_some_iff.1 h3).1
    refine ⟨⟨⟨⟨⟨h1, h2⟩, by omega⟩, ?_⟩, h5⟩, h6⟩
    show xs.getD k 0 = 0
    rw [List.getD_eq_getElem?_getD, h3]; rfl
/-! ### winning cells -/
theorem winsB_iff {r c : Int} {xs : List Int} {pl : Int} {k : Nat} : winsB r c xs pl k = true ↔ moveL r c xs (k : Int) pl = true ∧ winL r c (xs.set k pl) (3 - pl) = pl := by
  unfold winsB; rw [Bool.and_eq_true, decide_eq_true_eq]
theorem winCells_mem {r c : Int} {xs : List Int} {pl : Int} {e : Int} : e ∈ winCellsL r c xs pl ↔ ∃ k : Nat, e = (k : Int) ∧ winsB r c xs pl k = true := by
  unfold winCellsL
  rw [List.mem_map]
  constructor
  · rintro ⟨k, hk, rfl⟩
    exact ⟨k, rfl, (List.mem_filter.1 hk).2⟩
  · rintro ⟨k, rfl, hk⟩
    refine ⟨k, List.mem_filter.2 ⟨List.mem_range.2 ?_, hk⟩, rfl⟩
    exact (List.getElem?_eq_some_iff.1 (moveL_iff.1 (winsB_iff.1 hk).1).2.2.1).1
section
variable {R C : Nat} {xs : List Int} (hb : posB (R : Int) (C : Int) xs = true) (hS : Sides (R : Int) (C : Int) R C xs)
include hb hS
theorem winCells_some {P : Nat} (hP : P = 1 ∨ P = 2) (h1 : joinsL (R : Int) (C : Int) xs 1 = false) (h2 : joinsL (R : Int) (C : Int) xs 2 = false) : 0 < (winCellsL (R : Int) (C : Int) xs (P : Int)).length ↔ winL (R : Int) (C : Int) xs (P : Int) = (P : Int) := by
  rw [winL_open hb hS hP h1 h2, List.length_pos_iff_exists_mem]
  constructor
  · rintro ⟨e, he⟩
    obtain ⟨k, rfl, hk⟩ := winCells_mem.1 he
    have hk := winsB_iff.1 hk
    exact ⟨k, (moveL_iff.1 hk.1).2.2.1, hk.2⟩
  · rintro ⟨k, hk, hw⟩
    exact ⟨(k : Int), winCells_mem.2 ⟨k, rfl, winsB_iff.2 ⟨moveL_iff.2 ⟨hb, playerB_of hP, hk, h1, h2⟩, hw⟩⟩⟩
omit hb hS
include hb hS
end

/-! ### played on -/
section
variable {R C : Nat} {xs : List Int} (hb : posB (R : Int) (C : Int) xs = true) (hS : Sides (R : Int) (C : Int) R C xs)
include hb hS
end

end Go.Proofs.YtmhflbomploidaaDoor

/- The model's table of who wins: each position has a place of its own in it. No program text. -/
set_option maxRecDepth 20000
namespace Go.Proofs.YtmhflbomploidaaDoor
open Go Go.Ip G

/-- The place of a position, from its first k cells: the same number as the model reckons. -/
def keyF (a b : Nat) : Nat → Nat
  | 0 => 0
  | k + 1 => 3 * keyF a b k + (a >>> k % 2) + 2 * (b >>> k % 2)

theorem digit_le {R C a b : Nat} (h : Pos R C a b) (k : Nat) : a >>> k % 2 + 2 * (b >>> k % 2) ≤ 2 := by
  have h1 := bit_iff a k
  have h2 := bit_iff b k
  rcases Nat.mod_two_eq_zero_or_one (a >>> k) with e1 | e1 <;> rcases Nat.mod_two_eq_zero_or_one (b >>> k) with e2 | e2
  · omega
  · omega
  · omega
  · exact (h.2.2 k (h1.1 e1) (h2.1 e2)).elim
theorem key_lt {R C a b : Nat} (h : Pos R C a b) : ∀ k, keyF a b k < 3 ^ k
  | 0 => Nat.zero_lt_one
  | k + 1 => by
    have ih := key_lt h k
    have hd := digit_le h k
    rw [keyF, Nat.pow_succ]; omega
theorem key_inj {R C a b a' b' : Nat} (h : Pos R C a b) (h' : Pos R C a' b') : ∀ k, keyF a b k = keyF a' b' k → ∀ i, i < k → a.testBit i = a'.testBit i ∧ b.testBit i = b'.testBit i
  | 0, _, i, hi => by omega
  | k + 1, he, i, hi => by
    have hd := digit_le h k
    have hd' := digit_le h' k
    rw [keyF, keyF] at he
    have e1 : keyF a b k = keyF a' b' k := by omega
    have e2 : a >>> k % 2 = a' >>> k % 2 ∧ b >>> k % 2 = b' >>> k % 2 := by
      have := Nat.mod_two_eq_zero_or_one (a >>> k); have := Nat.mod_two_eq_zero_or_one (a' >>> k); omega
    by_cases hik : i = k
    · subst hik
      have t : ∀ x y : Nat, x >>> i % 2 = y >>> i % 2 → x.testBit i = y.testBit i := fun x y e => by
        rw [Bool.eq_iff_iff, ← bit_iff, ← bit_iff, e]
      exact ⟨t _ _ e2.1, t _ _ e2.2⟩
    · exact key_inj h h' k e1 i (by omega)
theorem key_pos {R C a b a' b' : Nat} (h : Pos R C a b) (h' : Pos R C a' b') (he : keyF a b (R * C) = keyF a' b' (R * C)) : a = a' ∧ b = b' := by
  have hk := key_inj h h' _ he
  have t : ∀ x y : Nat, x < 2 ^ (R * C) → y < 2 ^ (R * C) → (∀ i, i < R * C → x.testBit i = y.testBit i) → x = y := fun x y hx hy hxy => by
    apply Nat.eq_of_testBit_eq
    intro j
    by_cases hj : j < R * C
    · exact hxy j hj
    · have e1 : x.testBit j = false := Nat.testBit_lt_two_pow (Nat.lt_of_lt_of_le hx (Nat.pow_le_pow_right (by decide) (by omega)))
      have e2 : y.testBit j = false := Nat.testBit_lt_two_pow (Nat.lt_of_lt_of_le hy (Nat.pow_le_pow_right (by decide) (by omega)))
      rw [e1, e2]
  exact ⟨t _ _ h.1 h'.1 fun i hi => (hk i hi).1, t _ _ h.2.1 h'.2.1 fun i hi => (hk i hi).2⟩

theorem pow3_le {n : Nat} (h : n ≤ 9) : 3 ^ n ≤ 19683 := Nat.pow_le_pow_right (n := 3) (by decide) h

def keyN (R C a b t : Nat) : Nat := 2 * keyF a b (R * C) + (t - 1)
/-- What the table holds: nothing, or who wins. -/
def Inv (R C : Nat) (T : List Int) : Prop := T.length = 2 * 3 ^ (R * C) ∧ ∀ a b t, Pos R C a b → (t = 1 ∨ t = 2) → T[keyN R C a b t]? = some 0 ∨ T[keyN R C a b t]? = some ((winN R C a b t : Nat) : Int)

theorem keyN_lt {R C a b t : Nat} (h : Pos R C a b) (ht : t = 1 ∨ t = 2) : keyN R C a b t < 2 * 3 ^ (R * C) := by
  have := key_lt h (R * C); unfold keyN; omega
theorem Inv.new (R C : Nat) : Inv R C (List.replicate (2 * 3 ^ (R * C)) 0) := by
  refine ⟨List.length_replicate, fun a b t h ht => .inl ?_⟩
  rw [List.getElem?_replicate, if_pos (keyN_lt h ht)]
theorem Inv.put {R C a b t : Nat} {T : List Int} (hi : Inv R C T) (h : Pos R C a b) (ht : t = 1 ∨ t = 2) : Inv R C (T.set (keyN R C a b t) ((winN R C a b t : Nat) : Int)) := by
  refine ⟨by rw [List.length_set]; exact hi.1, fun a' b' t' h' ht' => ?_⟩
  rw [List.getElem?_set]
  by_cases e : keyN R C a b t = keyN R C a' b' t'
  · right
    rw [if_pos e, if_pos (by rw [hi.1]; exact keyN_lt h ht)]
    unfold keyN at e
    have e1 : keyF a b (R * C) = keyF a' b' (R * C) := by omega
    have e2 : t = t' := by omega
    obtain ⟨rfl, rfl⟩ := key_pos h h' e1
    rw [e2]
  · rw [if_neg e]; exact hi.2 a' b' t' h' ht'
theorem Inv.get {R C a b t : Nat} {T : List Int} (hi : Inv R C T) (h : Pos R C a b) (ht : t = 1 ∨ t = 2) : ∃ hl : keyN R C a b t < T.length, T[keyN R C a b t] = 0 ∨ T[keyN R C a b t] = ((winN R C a b t : Nat) : Int) := by
  have hl : keyN R C a b t < T.length := by rw [hi.1]; exact keyN_lt h ht
  refine ⟨hl, ?_⟩
  have := hi.2 a b t h ht
  rw [List.getElem?_eq_getElem hl] at this
  exact this.imp Option.some.inj Option.some.inj

/-- A winning move among the first k cells. -/
def moveTo (R C a b t k : Nat) : Bool := (List.range k).any fun k => !(a ||| b).testBit k && decide (winN R C (putA t k a) (putB t k b) (3 - t) = t)
theorem moveTo_succ (R C a b t k : Nat) : moveTo R C a b t (k + 1) = (moveTo R C a b t k || (!(a ||| b).testBit k && decide (winN R C (putA t k a) (putB t k b) (3 - t) = t))) := by
  unfold moveTo; rw [List.range_succ, List.any_append]; simp
theorem moveTo_mono {R C a b t k : Nat} (hk : k ≤ R * C) (h : moveTo R C a b t k = true) : moveB R C a b t = true := by
  unfold moveTo at h
  rw [List.any_eq_true] at h
  obtain ⟨x, hx, hh⟩ := h
  unfold moveB
  rw [List.any_eq_true]
  exact ⟨x, List.mem_range.2 (by have := List.mem_range.1 hx; omega), hh⟩
end Go.Proofs.YtmhflbomploidaaDoor

/- The model's chapter 3: what MoveOk, Played, WinnerOf, WinningCells and LinePlayed of it compute. -/
set_option maxRecDepth 20000
namespace Go.Proofs.YtmhflbomploidaaDoor
open Go Go.Ip G

variable (g : Nat → PV) (lf n : Nat)

theorem other_W (N : Nat) (hN : 1 ≤ N) (h : PHeap) {T : Nat} (hT : T = 1 ∨ T = 2) : CL g lf N fn_spec_l1Other [.int .i64 (T : Int)] h = some (.int .i64 ((3 - T : Nat) : Int), h) := by
  have := l1Other_N g lf N hN h (x := (T : Int)) (by rcases hT with rfl | rfl <;> rfl)
  rw [swap_player hT] at this; exact this

/-! ### the solver -/
theorem solve_W {R C : Nat} (hB : BoardOf R C) (hlf : 1000 < lf) : ∀ (m a b t N : Nat) (T : List Int) (p pm : PV) (h : PHeap) (b0 : Nat), frN (R * C) a b ≤ m → Pos R C a b → (t = 1 ∨ t = 2) → m + 5 ≤ N → Fix b0 h pm (ints (masksN R C)) → OwnSl b0 h p T → b0 ≤ h.length → Inv R C T →
    W (CL g lf N fn_spec_l3Solve [.int .i64 (R : Int), .int .i64 (C : Int), pm, .int .i64 (a : Int), .int .i64 (b : Int), .int .i64 (t : Int), p] h) fun v h' => v = .int .i64 ((winN R C a b t : Nat) : Int) ∧ ∃ T', OwnSl b0 h' p T' ∧ Inv R C T' ∧ Keep b0 h h' := by
  intro m
  induction m using Nat.strongRecOn with
  | _ m ih =>
  intro a b t N T p pm h b0 hm hp ht hN hpm ho hb0 hi
  obtain ⟨n, rfl⟩ : ∃ n, N = n + 1 := ⟨N - 1, by omega⟩
  have h9 := hB.2.2.2.2
  have l9 := hp.lt9 hB
  have hml : (ints (masksN R C)).length = R * C := by rw [ints_length, masksN_length]
  have e1 := l2Joins_calls g lf hB (P := 1) (.inl rfl) hpm.now l9.1 n (by omega) hlf
  have e2 := l2Joins_calls g lf hB (P := 2) (.inr rfl) hpm.now l9.2 n (by omega) hlf
  rw [spec_l3Solve.call_eq]
  unfold spec_l3Solve.main
  simp only [env_C, env_lf]
  cases j1 : joinsN R C 1 a with
  | true =>
    rw [j1] at e1
    refine wbd e1 ?_
    repeat (first | with_reducible refine wT ?_ | with_reducible refine wrI ?_ | dsimp only)
    exact W.ret ⟨by rw [win_first j1]; rfl, T, ho, hi, Keep.refl _ _⟩
  | false =>
  rw [j1] at e1
  refine wbd e1 ?_
  cases j2 : joinsN R C 2 b with
  | true =>
    rw [j2] at e2
    repeat (first | with_reducible refine wT ?_ | with_reducible refine wF ?_ | with_reducible refine wrI ?_ | (refine wbd e2 ?_) | dsimp only)
    skip
    exact W.ret ⟨by rw [win_second hB hp j2]; rfl, T, ho, hi, Keep.refl _ _⟩
  | false =>
  rw [j2] at e2
  repeat (first | with_reducible refine wF ?_ | (refine wbd e2 ?_) | dsimp only)
  skip
  -- the key
  refine loopW (fun m s => ∃ (k : Nat) (key : Int), s = spec_l3Solve.st0 (.int .i64 (R : Int)) (.int .i64 (C : Int)) pm (.int .i64 (a : Int)) (.int .i64 (b : Int)) (.int .i64 (t : Int)) p (.int .i64 key) (.int .i64 (k : Int)) h ∧ k + m = R * C ∧ key = (keyF a b k : Int)) ?_ lf (R * C) _ (by omega) ⟨0, 0, rfl, by omega, rfl⟩
  rintro n1 m1 s ⟨k, key, rfl, hkm, hkey⟩ next
  have hk3 := key_lt hp k
  have hp3 := pow3_le (show k ≤ 9 by omega)
  rw [spec_l3Solve.body0_eq]
  unfold spec_l3Solve.body0
  simp only [env_bin, env_len]
  cases m1 with
  | succ m1 =>
    repeat (first | with_reducible refine wT ?_ | with_reducible refine wlen (Fix.now (by assumption)) ?_ | with_reducible refine wadd1 (by omega) ?_ | with_reducible refine wrem2 ?_ | with_reducible refine wshr (by omega) ?_ | with_reducible refine wlssT (by omega) ?_ | with_reducible refine wadd (by omega) ?_ | with_reducible refine wmul (by omega) ?_)
    refine next _ _ (Nat.lt_succ_self m1) ⟨k + 1, _, rfl, by omega, ?_⟩
    rw [keyF]; omega
  | zero =>
    have hkR : k = R * C := by omega
    subst hkR
    repeat (first | with_reducible refine wF ?_ | with_reducible refine wlen (Fix.now (by assumption)) ?_ | with_reducible refine wlssF (by omega) ?_ | with_reducible refine wadd (by omega) ?_ | with_reducible refine wsub (by omega) ?_ | with_reducible refine wmul (by omega) ?_ | rw [kLoop_exit] | rw [spec_l3Solve.after0_se0_0_1_2_3_4_5_6_15_16_33] | simp only [env_C, env_g, env_lf, env_pick, env_alloc, env_box, env_build, env_buildSlice, env_load, env_store, env_ptr, env_bin, env_un, env_conv, env_make, env_slice, env_fieldAddr, env_field, env_indexAddr, env_index, env_extract, env_len, env_append, env_max, env_min, env_makeMap, env_lookup, env_update])
    have hkn : 2 * key + (t : Int) - 1 = ((keyN R C a b t : Nat) : Int) := by unfold keyN; omega
    rw [hkn]
    obtain ⟨hl, hT⟩ := hi.get hp ht
    refine wat ho.int hl fun ad had => ?_
    refine wbd had ?_
    have hwc := win_cases (R := R) (C := C) (a := a) (b := b) ht
    refine wgtr (fun e => ?_) (fun e => ?_)
    · have hT' : T[keyN R C a b t] = ((winN R C a b t : Nat) : Int) := by
        rcases hT with h0 | h0
        · omega
        · exact h0
      repeat (first | with_reducible refine wT ?_)
      refine wat ho.int hl fun ad had => ?_
      refine wbd had ?_
      rw [hT']
      repeat (first | with_reducible refine wrI ?_)
      exact W.ret ⟨rfl, T, ho, hi, Keep.refl _ _⟩
    · have e3 := other_W g lf n (by omega) h ht
      repeat (first | with_reducible refine wF ?_ | with_reducible refine wbd (by assumption) ?_ | dsimp only)
      obtain ⟨KEY, hKEY⟩ : ∃ x, x = keyN R C a b t := ⟨_, rfl⟩
      have hwo := win_open (t := t) j1 j2
      have fin : ∀ (bst : Int) (k : Nat) (x : PV) (T2 : List Int) (h2 : PHeap), bst = ((winN R C a b t : Nat) : Int) → OwnSl b0 h2 p T2 → Inv R C T2 → Keep b0 h h2 →
          W (spec_l3Solve.K1 (env g lf n) (kTop Tryd.prog Tryd.f84) (.exit 2) (spec_l3Solve.se2_0_1_2_3_4_5_6_15_17_18_73 (.int .i64 (R : Int)) (.int .i64 (C : Int)) pm (.int .i64 (a : Int)) (.int .i64 (b : Int)) (.int .i64 (t : Int)) p (.int .i64 (KEY : Int)) (.int .i64 bst) (.int .i64 (k : Int)) x h2))
            fun v h' => v = .int .i64 ((winN R C a b t : Nat) : Int) ∧ ∃ T', OwnSl b0 h' p T' ∧ Inv R C T' ∧ Keep b0 h h' := by
        intro bst k x T2 h2 hbst o2 i2 k2
        rw [spec_l3Solve.after1_se2_0_1_2_3_4_5_6_15_17_18_73]
        simp only [env_indexAddr, env_store]
        obtain ⟨hl2, _⟩ := i2.get hp ht
        rw [← hKEY] at hl2
        refine wst o2 hl2 fun h3 o3 k3 l3 a3 e4 => ?_
        repeat (first | with_reducible refine wrI ?_)
        rw [hbst] at o3 ⊢
        rw [hKEY] at o3
        exact W.ret ⟨rfl, _, o3, i2.put hp ht, k2.trans k3⟩
      rw [← hKEY]
      refine loopW (fun m s => ∃ (k : Nat) (bst : Int) (T2 : List Int) (h2 : PHeap), s = spec_l3Solve.st1 (.int .i64 (R : Int)) (.int .i64 (C : Int)) pm (.int .i64 (a : Int)) (.int .i64 (b : Int)) (.int .i64 (t : Int)) p (.int .i64 (KEY : Int)) (.int .i64 bst) (.int .i64 (k : Int)) h2 ∧ k + m = R * C ∧
        ((bst = ((3 - t : Nat) : Int) ∧ moveTo R C a b t k = false) ∨ (bst = (t : Int) ∧ moveB R C a b t = true)) ∧ OwnSl b0 h2 p T2 ∧ Inv R C T2 ∧ Keep b0 h h2) ?_ lf (R * C) _ (by omega) ⟨0, _, T, h, rfl, by omega, .inl ⟨rfl, rfl⟩, ho, hi, Keep.refl _ _⟩
      rintro n2 m2 s ⟨k, bst, T2, h2, rfl, hkm2, hbst, o2, i2, k2⟩ next2
      have hpm2 := hpm.keep k2
      rw [spec_l3Solve.body1_eq]
      unfold spec_l3Solve.body1
      simp only [env_C, env_pick, env_bin, env_len]
      rcases hbst with ⟨hb1, hb2⟩ | ⟨hb1, hb2⟩
      · cases m2 with
        | zero =>
          repeat (first | with_reducible refine wF ?_ | with_reducible refine wg0 rfl ?_ | with_reducible refine wpF ?_ | with_reducible refine wsm ?_ | with_reducible refine wlen (Fix.now (by assumption)) ?_ | with_reducible refine wlssF (by omega) ?_ | rw [kLoop_exit] | dsimp only)
          refine fin bst k _ T2 h2 ?_ o2 i2 k2
          have hkR : k = R * C := by omega
          subst hkR
          have : moveB R C a b t = false := hb2
          rw [hwo, this, hb1]; rfl
        | succ m2 =>
          have hkl : k < R * C := by omega
          have hne : ¬ bst = (t : Int) := by omega
          have hor : a ||| b < 2 ^ 9 := Nat.or_lt_two_pow l9.1 l9.2
          have hsl := shl_lt (show k < 9 by omega)
          have hto := moveTo_succ R C a b t k
          rw [hb2, Bool.false_or] at hto
          repeat (first | with_reducible refine wT ?_ | with_reducible refine wg1 rfl ?_ | with_reducible refine wpT ?_ | with_reducible refine wpv ?_ | with_reducible refine wsm ?_ | with_reducible refine wlen (Fix.now (by assumption)) ?_ | with_reducible refine wrem2 ?_ | with_reducible refine wshr (by omega) ?_ | with_reducible refine wor (by omega) (by omega) ?_ | with_reducible refine wlssT (by omega) ?_ | with_reducible refine wneqT (by omega) ?_ | dsimp only)
          refine weql (fun e => ?_) (fun e => ?_)
          · have hbit := (bit_iff (a ||| b) k).1 (by omega)
            rw [hbit] at hto
            repeat (first | with_reducible refine wT ?_ | with_reducible refine wadd1 (by omega) ?_)
            exact next2 _ _ (Nat.lt_succ_self m2) ⟨k + 1, bst, T2, h2, rfl, by omega, .inl ⟨hb1, hto⟩, o2, i2, k2⟩
          · have hbit : (a ||| b).testBit k = false := by
              cases e2 : (a ||| b).testBit k with
              | false => rfl
              | true => exact (e (by rw [(bit_iff (a ||| b) k).2 e2]; rfl)).elim
            have hfr := fr_put (t := t) hkl hbit
            have hpp := hp.put (t := t) hkl hbit
            rw [hbit, Bool.not_false, Bool.true_and] at hto
            have hor2 : a ||| 1 <<< k < 2 ^ 9 := Nat.or_lt_two_pow l9.1 hsl
            have hor3 : b ||| 1 <<< k < 2 ^ 9 := Nat.or_lt_two_pow l9.2 hsl
            rcases ht with rfl | rfl
            · repeat (first | with_reducible refine wT ?_ | with_reducible refine wF ?_ | with_reducible refine wshl (by omega) ?_ | with_reducible refine wor (by omega) (by omega) ?_ | with_reducible refine weqlT (by omega) ?_)
              refine wcall (ih (m - 1) (by omega) (a ||| 1 <<< k) b 2 n T2 p pm h2 b0 (Nat.le_sub_one_of_lt (Nat.lt_of_lt_of_le hfr hm)) hpp (.inr rfl) (by omega) hpm2 o2 (Nat.le_trans hb0 k2.1) i2) fun v h3 ⟨hv, T3, o3, i3, k3⟩ => ?_
              subst hv
              refine weql (fun e => ?_) (fun e => ?_)
              · repeat (first | with_reducible refine wT ?_ | with_reducible refine wadd1 (by omega) ?_ | dsimp only)
                have hw : winN R C (putA 1 k a) (putB 1 k b) (3 - 1) = 1 := Int.ofNat_inj.1 e
                rw [decide_eq_true hw] at hto
                exact next2 _ _ (Nat.lt_succ_self m2) ⟨k + 1, _, T3, h3, rfl, by omega, .inr ⟨rfl, moveTo_mono (by omega) hto⟩, o3, i3, k2.trans k3⟩
              · repeat (first | with_reducible refine wF ?_ | with_reducible refine wadd1 (by omega) ?_ | dsimp only)
                have hw : ¬ winN R C (putA 1 k a) (putB 1 k b) (3 - 1) = 1 := fun hh => e (congrArg Int.ofNat hh)
                rw [decide_eq_false hw] at hto
                exact next2 _ _ (Nat.lt_succ_self m2) ⟨k + 1, bst, T3, h3, rfl, by omega, .inl ⟨hb1, hto⟩, o3, i3, k2.trans k3⟩
            · repeat (first | with_reducible refine wF ?_ | with_reducible refine wshl (by omega) ?_ | with_reducible refine wor (by omega) (by omega) ?_ | with_reducible refine weqlF (by omega) ?_)
              refine wcall (ih (m - 1) (by omega) a (b ||| 1 <<< k) 1 n T2 p pm h2 b0 (Nat.le_sub_one_of_lt (Nat.lt_of_lt_of_le hfr hm)) hpp (.inl rfl) (by omega) hpm2 o2 (Nat.le_trans hb0 k2.1) i2) fun v h3 ⟨hv, T3, o3, i3, k3⟩ => ?_
              subst hv
              refine weql (fun e => ?_) (fun e => ?_)
              · repeat (first | with_reducible refine wT ?_ | with_reducible refine wadd1 (by omega) ?_ | dsimp only)
                have hw : winN R C (putA 2 k a) (putB 2 k b) (3 - 2) = 2 := Int.ofNat_inj.1 e
                rw [decide_eq_true hw] at hto
                exact next2 _ _ (Nat.lt_succ_self m2) ⟨k + 1, _, T3, h3, rfl, by omega, .inr ⟨rfl, moveTo_mono (by omega) hto⟩, o3, i3, k2.trans k3⟩
              · repeat (first | with_reducible refine wF ?_ | with_reducible refine wadd1 (by omega) ?_ | dsimp only)
                have hw : ¬ winN R C (putA 2 k a) (putB 2 k b) (3 - 2) = 2 := fun hh => e (congrArg Int.ofNat hh)
                rw [decide_eq_false hw] at hto
                exact next2 _ _ (Nat.lt_succ_self m2) ⟨k + 1, bst, T3, h3, rfl, by omega, .inl ⟨hb1, hto⟩, o3, i3, k2.trans k3⟩
      · have hfin : bst = ((winN R C a b t : Nat) : Int) := by rw [hwo, hb2, hb1]; rfl
        by_cases hkl : k < R * C
        · repeat (first | with_reducible refine wF ?_ | with_reducible refine wg1 rfl ?_ | with_reducible refine wpT ?_ | with_reducible refine wpv ?_ | with_reducible refine wsm ?_ | with_reducible refine wlen (Fix.now (by assumption)) ?_ | with_reducible refine wlssT (by omega) ?_ | with_reducible refine wneqF (by omega) ?_ | rw [kLoop_exit] | dsimp only)
          exact fin bst k _ T2 h2 hfin o2 i2 k2
        · repeat (first | with_reducible refine wF ?_ | with_reducible refine wg0 rfl ?_ | with_reducible refine wpF ?_ | with_reducible refine wsm ?_ | with_reducible refine wlen (Fix.now (by assumption)) ?_ | with_reducible refine wlssF (by omega) ?_ | rw [kLoop_exit] | dsimp only)
          exact fin bst k _ T2 h2 hfin o2 i2 k2

theorem table_W {R C : Nat} (hB : BoardOf R C) (hlf : 1000 < lf) (N : Nat) (hN : 1 ≤ N) (h : PHeap) :
    W (CL g lf N fn_spec_l3Table [.int .i64 ((R * C : Nat) : Int)] h) fun v h' => ∃ T, OwnSl h.length h' v T ∧ Inv R C T ∧ Keep h.length h h' := by
  obtain ⟨n, rfl⟩ : ∃ n, N = n + 1 := ⟨N - 1, by omega⟩
  have h9 := hB.2.2.2.2
  rw [spec_l3Table.call_eq]
  unfold spec_l3Table.main
  simp only [env_lf]
  refine loopW (fun m s => ∃ (k V : Nat), s = spec_l3Table.st0 (.int .i64 ((R * C : Nat) : Int)) (.int .i64 (V : Int)) (.int .i64 (k : Int)) h ∧ k + m = R * C ∧ V = 2 * 3 ^ k) ?_ lf (R * C) _ (by omega) ⟨0, 2, rfl, by omega, rfl⟩
  rintro n1 m1 s ⟨k, V, rfl, hkm, hV⟩ next
  have hp3 := pow3_le (show k ≤ 9 by omega)
  rw [spec_l3Table.body0_eq]
  unfold spec_l3Table.body0
  simp only [env_bin]
  cases m1 with
  | succ m1 =>
    repeat (first | with_reducible refine wT ?_ | with_reducible refine wadd1 (by omega) ?_ | with_reducible refine wlssT (by omega) ?_ | with_reducible refine wmul (by omega) ?_)
    refine next _ _ (Nat.lt_succ_self m1) ⟨k + 1, V * 3, rfl, by omega, by rw [Nat.pow_succ]; omega⟩
  | zero =>
    have hkR : k = R * C := by omega
    subst hkR
    subst hV
    repeat (first | with_reducible refine wF ?_ | with_reducible refine wlssF (by omega) ?_ | rw [kLoop_exit] | rw [spec_l3Table.after0_se0_0_3_4_7] | simp only [env_C, env_g, env_lf, env_pick, env_alloc, env_box, env_build, env_buildSlice, env_load, env_store, env_ptr, env_bin, env_un, env_conv, env_make, env_slice, env_fieldAddr, env_field, env_indexAddr, env_index, env_extract, env_len, env_append, env_max, env_min, env_makeMap, env_lookup, env_update])
    refine wmake (by omega) fun p h1 o1 k1 => ?_
    repeat (first | with_reducible refine wresO (by assumption) ?_ | dsimp only)
    exact W.ret ⟨_, o1, Inv.new R C, k1⟩

theorem winner_W {R C : Nat} {xs : List Int} {p : PV} {h : PHeap} (hS : Sides (R : Int) (C : Int) R C xs) {T : Nat} (hT : T = 1 ∨ T = 2) (hp : IntSl .i64 h p xs) (hlf : 1000 < lf) (N : Nat) (hN : 16 ≤ N) :
    ∃ h', CL g lf N fn_spec_l3Winner [.int .i64 (R : Int), .int .i64 (C : Int), p, .int .i64 (T : Int)] h = some (.int .i64 ((winN R C (setL xs 1) (setL xs 2) T : Nat) : Int), h') ∧ Keep h.length h h' := by
  obtain ⟨n, rfl⟩ : ∃ n, N = n + 1 := ⟨N - 1, by omega⟩
  have hB := board_of_sides hS
  have hlen : xs.length = R * C := hS.2.2.2.2.2.2.2.1
  have h9 := hB.2.2.2.2
  have hml : (ints (masksN R C)).length = R * C := by rw [ints_length, masksN_length]
  have : W (CL g lf (n + 1) fn_spec_l3Winner [.int .i64 (R : Int), .int .i64 (C : Int), p, .int .i64 (T : Int)] h) fun v h' => v = .int .i64 ((winN R C (setL xs 1) (setL xs 2) T : Nat) : Int) ∧ Keep h.length h h' := by
    rw [spec_l3Winner.call_eq]
    unfold spec_l3Winner.main
    simp only [env_C, env_len]
    obtain ⟨pm, h1, e1, o1, k1⟩ := l2Masks_calls g lf hB n (by omega) (by omega) (h := h)
    have hp1 := hp.keep k1
    have e2 := l2Set_calls g lf 1 hp1 (by omega) n (by omega) (by omega)
    have e3 := l2Set_calls g lf 2 hp1 (by omega) n (by omega) (by omega)
    have hlm := o1.int.len'
    rw [hml] at hlm
    repeat (first | with_reducible refine wbd (by assumption) ?_ | dsimp only)
    refine wcall (table_W g lf hB hlf n (by omega) h1) fun q h2 ⟨T2, o2, i2, k2⟩ => ?_
    repeat (first | dsimp only)
    refine wcall (solve_W g lf hB hlf (R * C) (setL xs 1) (setL xs 2) T n T2 q pm h2 h1.length (fr_le _ _ _) (pos_sets hS) hT (by omega) (o1.int.fix.keep k2) o2 k2.1 i2) fun v h3 ⟨hv, T3, o3, i3, k3⟩ => ?_
    subst hv
    repeat (first | with_reducible refine wrI ?_ | dsimp only)
    exact W.ret ⟨rfl, k1.trans ((k2.trans k3).mono k1.1)⟩
  obtain ⟨_, h', e, rfl, k⟩ := this
  exact ⟨h', e, k⟩

end Go.Proofs.YtmhflbomploidaaDoor

/- The model's chapter 3, on: the winning cells and the moves played on. -/
set_option maxRecDepth 20000
namespace Go.Proofs.YtmhflbomploidaaDoor
open Go Go.Ip G

/-! ### two lists at once: one between two marks, that is written to, and one apart from it, that grows -/
def Apart (b0 b1 b2 : Nat) (h : PHeap) (q : PV) (ys : List Int) : Prop := ∃ n m, OwnB n m h q ys ∧ b0 ≤ n ∧ (m ≤ b1 ∨ b2 ≤ n) ∧ m ≤ h.length
theorem Apart.keep {b0 b1 b2 : Nat} {h h' : PHeap} {q : PV} {ys : List Int} (s : Apart b0 b1 b2 h q ys) (k : Keep h.length h h') : Apart b0 b1 b2 h' q ys := by
  obtain ⟨n, m, o, h1, h2, h3⟩ := s
  exact ⟨n, m, o.keep (k.mono h3), h1, h2, Nat.le_trans h3 k.1⟩
theorem Apart.only {b0 b1 b2 : Nat} {h h' : PHeap} {q : PV} {ys : List Int} (s : Apart b0 b1 b2 h q ys) (k : Only b1 b2 h h') : Apart b0 b1 b2 h' q ys := by
  obtain ⟨n, m, o, h1, h2, h3⟩ := s
  exact ⟨n, m, o.only k (h2.imp id id), h1, h2, by rw [k.1]; exact h3⟩
theorem Apart.sl {b0 b1 b2 : Nat} {h : PHeap} {q : PV} {ys : List Int} (s : Apart b0 b1 b2 h q ys) : OwnSl b0 h q ys := by
  obtain ⟨n, m, o, h1, h2, h3⟩ := s
  exact o.sl.mono h1

theorem OwnB.append {n m : Nat} {h : PHeap} {p : PV} {xs : List Int} (s : OwnB n m h p xs) (hn : n ≤ h.length) (x : Int) (hl : xs.length + 1 ≤ 2 ^ 36) :
    ∃ v p' h', buildSliceP Tryd.prog 23 1 [(0, .int .i64 x)] h = some v ∧ appendP Tryd.prog 23 23 p v.1 v.2 = some (p', h') ∧ OwnSl h.length h' p' (xs ++ [x]) ∧ Keep n h h' ∧
      ∀ a b r zs, OwnB a b h r zs → (b ≤ n ∨ m ≤ a) → OwnB a b h' r zs := by
  have hb : buildSliceP Tryd.prog 23 1 [(0, .int .i64 x)] h = some (.sl h.length 0 1, h ++ [.own 1 [.int .i64 x]]) := by
    simp [buildSliceP, tyElem, tySize, tyZero, repeatCells, fillP, PV.cells, setCells]
  have hsrc : srcP (h ++ [.own 1 [.int .i64 x]]) 1 (.sl h.length 0 1) = some (1, [.int .i64 x]) := by
    simp [srcP, cellsAt, PObj.get]
  rcases s with ⟨rfl, rfl⟩ | ⟨id, h1, h2, rfl, h3⟩
  · refine ⟨_, .sl (h.length + 1) 0 1, h ++ [.own 1 [.int .i64 x]] ++ [.own 1 [.int .i64 x]], hb, ?_, .inr ⟨h.length + 1, by omega, rfl, ?_⟩, ?_, ?_⟩
    · simp [appendP, tyElem, tySize, tySmall, hsrc]
    · rw [List.getElem?_append_right (by simp)]; simp
    · rw [List.append_assoc]; exact Keep.append _ _ _ hn
    · rintro a b r zs (⟨rfl, rfl⟩ | ⟨i, i1, i2, rfl, i3⟩) _
      · exact .inl ⟨rfl, rfl⟩
      · refine .inr ⟨i, i1, i2, rfl, ?_⟩
        have hi : i < h.length := (List.getElem?_eq_some_iff.1 i3).1
        rw [List.append_assoc, List.getElem?_append_left hi]; exact i3
  · have hid : id < h.length := (List.getElem?_eq_some_iff.1 h3).1
    have h3' : (h ++ [PObj.own 1 [.int .i64 x]])[id]? = some (.own 1 (xs.map (.int .i64))) := by rw [List.getElem?_append_left hid]; exact h3
    refine ⟨_, .sl (h.length + 1) 0 (xs.length + 1), ((h ++ [PObj.own 1 [.int .i64 x]]).set id .dead ++ [PObj.own 1 (xs.map (.int .i64) ++ [.int .i64 x])]), hb, ?_, .inr ⟨h.length + 1, by omega, by simp, ?_⟩, ?_, ?_⟩
    · simp [appendP, tyElem, tySize, tySmall, hsrc, h3', hl]
    · rw [List.getElem?_append_right (by simp)]; simp
    · exact ((Keep.append n h _ hn).trans (Keep.set n _ id .dead h1)).trans (Keep.append _ _ _ (by simp; omega))
    · rintro a b r zs (⟨rfl, rfl⟩ | ⟨i, i1, i2, rfl, i3⟩) hd
      · exact .inl ⟨rfl, rfl⟩
      · refine .inr ⟨i, i1, i2, rfl, ?_⟩
        have hi : i < h.length := (List.getElem?_eq_some_iff.1 i3).1
        rw [List.getElem?_append_left (by simp; omega), List.getElem?_set_ne (by omega), List.getElem?_append_left hi]; exact i3

section
variable {Q : PV → PHeap → Prop} {h : PHeap} {p r : PV} {xs zs : List Int} {b0 b1 b2 : Nat}
theorem wapA (s : Apart b0 b1 b2 h p xs) (o : OwnB b1 b2 h r zs) (hb0 : b0 ≤ h.length) (hb2 : b2 ≤ h.length) {x : Int} (hl : xs.length + 1 ≤ 2 ^ 36) {F : PV × PHeap → Res}
    (hf : ∀ p' h', Apart b0 b1 b2 h' p' (xs ++ [x]) → OwnB b1 b2 h' r zs → Keep b0 h h' → W (F (p', h')) Q) :
    W ((buildSliceP Tryd.prog 23 1 [(0, .int .i64 x)] h).bind fun v => (appendP Tryd.prog 23 23 p v.1 v.2).bind F) Q := by
  obtain ⟨n, m, on, h1, h2, h3⟩ := s
  rcases Nat.le_total n h.length with hn | hn
  · obtain ⟨v, p', h', e1, e2, o', k, fr⟩ := on.append hn x hl
    exact wbd e1 (wbd e2 (hf p' h' ⟨h.length, h'.length, o'.b, hb0, .inr hb2, Nat.le_refl _⟩ (fr _ _ _ _ o (by omega)) (k.mono h1)))
  · have o0 : OwnB h.length m h p xs := by
      rcases on with on | ⟨id, i1, i2, i3, i4⟩
      · exact .inl on
      · have := (List.getElem?_eq_some_iff.1 i4).1; omega
    obtain ⟨v, p', h', e1, e2, o', k, fr⟩ := o0.append (Nat.le_refl _) x hl
    exact wbd e1 (wbd e2 (hf p' h' ⟨h.length, h'.length, o'.b, hb0, .inr hb2, Nat.le_refl _⟩ (fr _ _ _ _ o (by omega)) (k.mono hb0)))
end

/-! ### winning cells -/
variable (g : Nat → PV) (lf n : Nat)

/-! ### played on -/
end Go.Proofs.YtmhflbomploidaaDoor

/- Chapter 3's laws over what the program's functions are asked to compute: the draws, and the exact laws. -/
set_option maxRecDepth 20000
namespace Go.Proofs.YtmhflbomploidaaDoor
open Go Go.Ip G

def WinnerOk (g : Nat → PV) (lf : Nat) : Prop := ∀ (N : Nat), 40 ≤ N → ∀ (r c t : Int) {xs : List Int} {p : PV} {h : PHeap}, TabOk g h → IntSl .i64 h p xs → xs.length ≤ 2 ^ 35 → xs.length < lf →
  ∃ h', CL g lf N fn_impl_WinnerOf [.int .i64 r, .int .i64 c, p, .int .i64 t] h = some (.int .i64 (winL r c xs t), h') ∧ Keep h.length h h'
def WinCellsOk (g : Nat → PV) (lf : Nat) : Prop := ∀ (N : Nat), 40 ≤ N → ∀ (r c pl : Int) {xs : List Int} {p : PV} {h : PHeap}, TabOk g h → IntSl .i64 h p xs → xs.length ≤ 2 ^ 35 → xs.length < lf →
  ∃ q h', CL g lf N fn_impl_WinningCells [.int .i64 r, .int .i64 c, p, .int .i64 pl] h = some (q, h') ∧ OwnSl h.length h' q (winCellsL r c xs pl) ∧ Keep h.length h h'
theorem W.yes {x : Res} (hx : W x fun v _ => v = .bool true) : ∃ h', x = some (.bool true, h') := by
  obtain ⟨_, h', e, rfl⟩ := hx; exact ⟨h', e⟩
section
variable {Q : PV → PHeap → Prop} {b : Bool} {f : PV → Res}
theorem wneqBB (hf : W (f (.bool false)) Q) : W ((binP Tryd.prog .neq 4 (.bool b) (.bool b)).bind f) Q := wbd (by rw [neqB]; simp) hf
theorem weqlBB (hf : W (f (.bool true)) Q) : W ((binP Tryd.prog .eql 4 (.bool b) (.bool b)).bind f) Q := wbd (by rw [eqlB]; simp) hf
/-- A call, with the heap's mark kept. -/
theorem wcv {x : Res} {v : PV} {m : Nat} {h0 h : PHeap} (c : ∃ h', x = some (v, h') ∧ Keep h.length h h') (k : Keep m h0 h) (hm : m ≤ h0.length) {f : PV × PHeap → Res} (hf : ∀ h', Keep m h0 h' → W (f (v, h')) Q) : W (x.bind f) Q := by
  obtain ⟨h', e, k'⟩ := c
  exact wbd e (hf h' (k.trans (k'.mono (Nat.le_trans hm k.1))))
theorem wcl {x : Res} {L : List Int} {m : Nat} {h0 h : PHeap} (c : ∃ q h', x = some (q, h') ∧ OwnSl h.length h' q L ∧ Keep h.length h h') (k : Keep m h0 h) (hm : m ≤ h0.length) {f : PV × PHeap → Res} (hf : ∀ q h', OwnSl h.length h' q L → Fix h'.length h' q L → Keep m h0 h' → W (f (q, h')) Q) : W (x.bind f) Q := by
  obtain ⟨q, h', e, o, k'⟩ := c
  exact wbd e (hf q h' o o.int.fix (k.trans (k'.mono (Nat.le_trans hm k.1))))
end
theorem Fix.re {m : Nat} {h h' : PHeap} {p : PV} {xs : List Int} (s : Fix m h p xs) (k : Keep m h h') (hm : m ≤ h.length) : Fix h'.length h' p xs := fun h2 k2 => s h2 (k.trans (k2.mono (Nat.le_trans hm k.1)))
theorem tabF {g : Nat → PV} {h h1 : PHeap} (t : TabOk g h) (k : Keep h.length h h1) : ∀ h2, Keep h1.length h1 h2 → TabOk g h2 := fun _ k2 => (t.keep k).keep k2

variable (g : Nat → PV) (lf n : Nat)

/-! ### the draws -/
theorem sided_W {h : PHeap} {id m : Nat} (N : Nat) (hN : 5 ≤ N) (k : Int) (hr : Rd h id m) (hm : m ≤ 700000) (hk : k ≤ 400000) (hk0 : 1 ≤ k) (hlf : 20 < lf) :
    ∃ (r c : Int) (q : PV) (xs : List Int) (pl : Int) (h' : PHeap), CL g lf N fn_spec_l20Sided [.ptr id 0, .int .i64 k] h = some (.tup [.int .i64 r, .int .i64 c, q, .int .i64 pl], h') ∧ Rd h' id (m + 32) ∧ Keep id h h' ∧ OwnSl (id + 1) h' q xs ∧ xs.length ≤ 10 ∧ 1 ≤ pl ∧ pl ≤ 4 := by
  obtain ⟨n, rfl⟩ : ∃ n, N = n + 1 := ⟨N - 1, by omega⟩
  rw [spec_l20Sided.call_eq]
  obtain ⟨r, c, q, xs, h1, e1, r1, k1, o1, hl, hrc⟩ := position_calls g lf n (by omega) k hr (by omega) hk hk0 hlf
  obtain ⟨v1, h2, e2, r2, o2, a1, a2, _⟩ := pick_calls g lf n (by omega) 2 r1 (by omega) (by omega)
  obtain ⟨v2, h3, e3, r3, o3, b1, b2, _⟩ := pick_calls g lf n (by omega) 60 r2 (by omega) (by omega)
  have a2' := a2 (by omega)
  have b2' := b2 (by omega)
  have hq := tdiv_range b1 (show (1 : Int) ≤ 59 by decide)
  have hq1 : v2.tdiv 59 ≤ 1 := by
    obtain ⟨V, rfl⟩ := Int.eq_ofNat_of_zero_le b1
    have : ((V : Int).tdiv 59) = ((V / 59 : Nat) : Int) := rfl
    rw [this]; omega
  have f1 : binP Tryd.prog .add 3 (.int .i64 1) (.int .i64 v1) = some (.int .i64 (1 + v1)) := by rw [bin_add, wr (by omega)]
  have f2 : binP Tryd.prog .quo 3 (.int .i64 v2) (.int .i64 59) = some (.int .i64 (v2.tdiv 59)) := by rw [bin_quo (by decide), wr (by omega)]
  have f3 : binP Tryd.prog .mul 3 (.int .i64 (v2.tdiv 59)) (.int .i64 2) = some (.int .i64 (v2.tdiv 59 * 2)) := by rw [bin_mul, wr (by omega)]
  have f4 : binP Tryd.prog .add 3 (.int .i64 (1 + v1)) (.int .i64 (v2.tdiv 59 * 2)) = some (.int .i64 (1 + v1 + v2.tdiv 59 * 2)) := by rw [bin_add, wr (by omega)]
  have ho := (o1.keepOnly o2 (by omega)).keepOnly o3 (by omega)
  refine ⟨r, c, q, xs, 1 + v1 + v2.tdiv 59 * 2, h3, ?_, r3.mono (by omega), (k1.trans o2.keep).trans o3.keep, ho, hl, by omega, by omega⟩
  unfold spec_l20Sided.main
  exact bd e1 (bd extract_tup (bd extract_tup (bd extract_tup (bd e2 (bd f1 (bd e3 (bd f2 (bd f3 (bd f4 (bd res_int (bd res_int (bd o1.res (bd res_int rfl)))))))))))))

end Go.Proofs.YtmhflbomploidaaDoor

/- The laws of chapter 3 over what the program's functions are asked to compute: promises 16, 17, 18 and 21. -/
set_option maxRecDepth 20000
namespace Go.Proofs.YtmhflbomploidaaDoor
open Go Go.Ip G

variable (g : Nat → PV) (lf n : Nat)

end Go.Proofs.YtmhflbomploidaaDoor

/- The laws of chapter 3 over what the program's functions are asked to compute: promises 18, 19, 20 and 22. -/
set_option maxRecDepth 20000
namespace Go.Proofs.YtmhflbomploidaaDoor
open Go Go.Ip G

theorem Fix.get {b : Nat} {h h' : PHeap} {p : PV} {xs : List Int} (s : Fix b h p xs) (k : Keep b h h') : IntSl .i64 h' p xs := s h' k
theorem sorted_get {L : List Int} (h : L.Pairwise (· < ·)) : ∀ i (hi : i + 1 < L.length), L[i] < L[i + 1] := fun i hi => List.pairwise_iff_getElem.1 h i (i + 1) (by omega) hi (by omega)
variable (g : Nat → PV) (lf n : Nat)

end Go.Proofs.YtmhflbomploidaaDoor

/- The boards that the model draws for chapters 4 and 5, and the draws. -/
set_option maxRecDepth 20000
namespace Go.Proofs.YtmhflbomploidaaDoor
open Go Go.Ip Go.RowKit G

variable (g : Nat → PV) (lf n : Nat)

theorem few2_W {h : PHeap} {id m : Nat} (N : Nat) (hN : 6 ≤ N) (k : Int) (hr : Rd h id m) (hm : m ≤ 600000) (hlf : 20 < lf) :
    W (CL g lf N fn_spec_l20Few [.ptr id 0, .int .i64 k] h) fun v h' => ∃ (r c : Int) (q : PV) (xs : List Int) (pl : Int), v = .tup [.int .i64 r, .int .i64 c, q, .int .i64 pl] ∧ Keep id h h' ∧ OwnSl (id + 1) h' q xs ∧ xs.length ≤ 10 ∧ 1 ≤ pl ∧ pl ≤ 4 ∧ Rd h' id (m + 50) ∧ (0 ≤ k → (xs.count 0 : Int) ≤ k) := by
  obtain ⟨n, rfl⟩ : ∃ n, N = n + 1 := ⟨N - 1, by omega⟩
  obtain ⟨r, c, q, xs, pl, h1, e1, r1, k1, o1, hl, hp1, hp2⟩ := sided_W g lf n (by omega) 14 hr (by omega) (by omega) (by omega) hlf
  rw [spec_l20Few.call_eq]
  unfold spec_l20Few.main
  simp only [env_C, env_lf, env_extract]
  repeat (first | with_reducible refine wx0 ?_ | with_reducible refine wx1 ?_ | with_reducible refine wx2 ?_ | with_reducible refine wx3 ?_ | with_reducible refine wbd (by assumption) ?_ | dsimp only)
  refine loopW (fun m' s => ∃ (i fr : Nat) (zs : List Int) (h2 : PHeap), s = spec_l20Few.st0 (.ptr id 0) (.int .i64 k) (.int .i64 r) (.int .i64 c) q (.int .i64 pl) (.int .i64 (fr : Int)) (.int .i64 (i : Int)) h2 ∧ i + m' = xs.length ∧ fr ≤ i ∧ zs.length = xs.length ∧ Rd h2 id (m + 32 + i) ∧ OwnSl (id + 1) h2 q zs ∧ Keep id h h2 ∧ (zs.take i).count 0 ≤ fr ∧ (0 ≤ k → ((zs.take i).count 0 : Int) ≤ k)) ?_ lf xs.length _ (by omega) ⟨0, 0, xs, h1, rfl, by omega, Nat.le_refl _, rfl, r1, o1, k1, by simp, fun hk => by simpa using hk⟩
  rintro n1 m1 s ⟨i, fr, zs, h2, rfl, him, hfr, hz, r2, o2, k2, hc1, hc2⟩ next
  rw [spec_l20Few.body0_eq]
  unfold spec_l20Few.body0
  simp only [env_C, env_load, env_store, env_bin, env_indexAddr, env_len]
  have hzl := wlen (Q := fun _ _ => True) o2.int (f := fun _ => some (.nilsl, [])) ⟨_, _, rfl, trivial⟩
  clear hzl
  have hlen := o2.int.len'
  rw [hz] at hlen
  cases m1 with
  | zero =>
    repeat (first | with_reducible refine wF ?_ | with_reducible refine wrI ?_ | with_reducible refine wbd (by assumption) ?_ | with_reducible refine wlssF (by omega) ?_ | with_reducible refine wresO (by assumption) ?_ | rw [kLoop_exit] | rw [spec_l20Few.after0_se0_0_1_8_9_10_11_12_13_24])
    refine W.ret ⟨r, c, q, zs, pl, rfl, k2, o2, by omega, hp1, hp2, r2.mono (by omega), fun hk => ?_⟩
    have := hc2 hk
    rw [List.take_of_length_le (by omega)] at this; exact this
  | succ m1 =>
    have hi : i < zs.length := by omega
    have htk : zs.take (i + 1) = zs.take i ++ [zs[i]] := by rw [List.take_add_one, List.getElem?_eq_getElem hi]; rfl
    repeat (first | with_reducible refine wT ?_ | with_reducible refine wbd (by assumption) ?_ | (with_reducible refine wat o2.int hi fun a hl => ?_) | with_reducible refine wlssT (by omega) ?_)
    refine weql (fun e => ?_) (fun e => ?_)
    · repeat (first | with_reducible refine wT ?_ | with_reducible refine wadd1 (by omega) ?_)
      refine wgtr (fun e2 => ?_) (fun e2 => ?_)
      · obtain ⟨v, h3, e3, r3, ok3, a1, a2, _⟩ := pick_calls g lf n (by omega) 2 r2 (by omega) (by omega)
        have a2' := a2 (by omega)
        have htset : ∀ w : Int, w ≠ 0 → ((zs.set i w).take (i + 1)).count 0 = (zs.take i).count 0 := fun w hw => by
          rw [List.take_add_one, List.getElem?_set_self hi, List.take_set_of_le (Nat.le_refl _), Option.toList_some, List.count_append, List.count_singleton]
          simp [hw]
        have o3 := o2.keepOnly ok3 (by omega)
        repeat (first | with_reducible refine wT ?_ | with_reducible refine wbd (by assumption) ?_ | (refine wst o3 hi fun h4 o4 k4 l4 a4 e4 => ?_) | with_reducible refine wadd1 (by omega) ?_)
        exact next _ _ (Nat.lt_succ_self m1) ⟨i + 1, fr + 1, _, h4, rfl, by omega, by omega, by rw [List.length_set]; exact hz, (r3.keep k4 (by omega)).mono (by omega), o4, (k2.trans ok3.keep).trans (k4.mono (by omega)), by rw [htset (IntKind.i64.wrap (1 + v)) (by rw [wr (by omega)]; omega)]; omega, fun hk => by rw [htset (IntKind.i64.wrap (1 + v)) (by rw [wr (by omega)]; omega)]; exact hc2 hk⟩
      · repeat (first | with_reducible refine wF ?_ | with_reducible refine wadd1 (by omega) ?_)
        exact next _ _ (Nat.lt_succ_self m1) ⟨i + 1, fr + 1, zs, h2, rfl, by omega, by omega, hz, r2.mono (by omega), o2, k2, by rw [htk, List.count_append, e]; simp; omega, fun hk => by rw [htk, List.count_append, e]; simp; omega⟩
    · repeat (first | with_reducible refine wF ?_ | with_reducible refine wadd1 (by omega) ?_)
      exact next _ _ (Nat.lt_succ_self m1) ⟨i + 1, fr, zs, h2, rfl, by omega, by omega, hz, r2.mono (by omega), o2, k2, by rw [htk, List.count_append, List.count_singleton]; simp [e]; exact hc1, fun hk => by rw [htk, List.count_append, List.count_singleton]; simp [e]; exact hc2 hk⟩


end Go.Proofs.YtmhflbomploidaaDoor

/- Stolen plans and pairs that answer: what chapter 4's functions tell, and what holds of it. No program text. -/
set_option maxRecDepth 20000
namespace Go.Proofs.YtmhflbomploidaaDoor
open Go Go.Ip G

/-! ### pairs -/
/-! ### pairs that are shared -/
/-! ### openings -/
end Go.Proofs.YtmhflbomploidaaDoor

/- Fillings: how many of them a player wins, which cells matter, and that stones on cells that do not matter change nothing. No program text. -/
set_option maxRecDepth 20000
namespace Go.Proofs.YtmhflbomploidaaDoor
open Go Go.Ip G

/-! ### counting over all fillings of some cells -/
/-- The filling that a number tells. -/
def fillN : List Nat → Nat → Nat
  | [], _ => 0
  | c :: l, m => ((m % 2) <<< c) ||| fillN l (m / 2)

/-! ### what a stone more is worth -/
/-! ### each filling is won by one -/
/-- A position whose free cells are those of a list. -/
structure Cover (R C a b : Nat) (l : List Nat) : Prop where
  pos : Pos R C a b
  nodup : l.Nodup
  free : ∀ j, j ∈ l ↔ j < R * C ∧ (a ||| b).testBit j = false
theorem Cover.put {R C a b c : Nat} {l : List Nat} (h : Cover R C a b (c :: l)) (t : Nat) : Cover R C (putA t c a) (putB t c b) l := by
  have hc := (h.free c).1 (List.mem_cons_self ..)
  have hnd := List.nodup_cons.1 h.nodup
  refine ⟨h.pos.put hc.1 hc.2, hnd.2, fun j => ?_⟩
  rw [put_bit, Bool.or_eq_false_iff, decide_eq_false_iff_not]
  constructor
  · intro hj
    have := (h.free j).1 (List.mem_cons_of_mem _ hj)
    exact ⟨this.1, this.2, fun e => hnd.1 (e ▸ hj)⟩
  · rintro ⟨h1, h2, h3⟩
    exact (List.mem_cons.1 ((h.free j).2 ⟨h1, h2⟩)).resolve_left h3
/-! ### the free cells of a set, as a list -/
def cellsN (S : Nat) : List Nat := (List.range 9).filter S.testBit
theorem cellsN_mem {S j : Nat} (hS : S < 2 ^ 9) : j ∈ cellsN S ↔ S.testBit j = true := by
  unfold cellsN
  rw [List.mem_filter, List.mem_range]
  exact ⟨fun h => h.2, fun h => ⟨bit_small hS h, h⟩⟩
theorem cellsN_lt {S j : Nat} (h : j ∈ cellsN S) : j < 9 := by unfold cellsN at h; exact List.mem_range.1 (List.mem_filter.1 h).1
/-! ### played to the last cell -/
end Go.Proofs.YtmhflbomploidaaDoor

/- What chapter 5's functions tell of a position (countL, pivotL, mattersL, deadL), and what holds of them. No program text. -/
set_option maxRecDepth 20000
namespace Go.Proofs.YtmhflbomploidaaDoor
open Go Go.Ip G

section
variable {R C : Nat} {xs : List Int} (hb : posB (R : Int) (C : Int) xs = true) (hS : Sides (R : Int) (C : Int) R C xs)
include hS
theorem cells_len : (cellsN (setL xs 0)).length = xs.count 0 := by
  rw [← pop_count (by have := hS.2.2.2.2.2.2.2.1; have := hS.2.2.2.2.2.2.1; omega)]
  unfold cellsN pop
  rw [List.countP_eq_length_filter]
omit hS
include hb
include hS
/-! ### turned and mirrored -/
/-! ### dead cells -/
end

end Go.Proofs.YtmhflbomploidaaDoor

/- Carriers and threats: what holds of positions whose free cells outside a set are given to the other player. No program text. -/
set_option maxRecDepth 20000
namespace Go.Proofs.YtmhflbomploidaaDoor
open Go Go.Ip G

def givenAt (xs : List Int) (P : Int) (S j : Nat) : Int := if xs.getD j 0 = 0 ∧ S.testBit j = false then 3 - P else xs.getD j 0
def givenL (xs : List Int) (P : Int) (S : Nat) : List Int := (List.range xs.length).map (givenAt xs P S)
theorem givenL_length (xs : List Int) (P : Int) (S : Nat) : (givenL xs P S).length = xs.length := by simp [givenL]
theorem givenL_get {xs : List Int} {P : Int} {S j : Nat} (hj : j < xs.length) : (givenL xs P S)[j]? = some (givenAt xs P S j) := by
  unfold givenL; rw [List.getElem?_map, List.getElem?_range hj]; rfl
theorem get_of {xs : List Int} {j : Nat} (h : j < xs.length) : xs[j]? = some (xs.getD j 0) := by rw [List.getD_eq_getElem?_getD, List.getElem?_eq_getElem h]; rfl

/-- No worse for the player. -/
def NoWorse (P : Int) (xs ys : List Int) : Prop := (∀ j : Nat, xs[j]? = some P → ys[j]? = some P) ∧ (∀ j : Nat, ys[j]? = some (3 - P) → xs[j]? = some (3 - P))

section
variable {R C : Nat} {xs ys : List Int} (hb : posB (R : Int) (C : Int) xs = true) (hb' : posB (R : Int) (C : Int) ys = true)
include hb
theorem sides_pos : Sides (R : Int) (C : Int) R C xs := by
  obtain ⟨R', C', hS⟩ := sides_of hb
  have e1 : R' = R := by have := hS.1; omega
  have e2 : C' = C := by have := hS.2.1; omega
  rw [e1, e2] at hS; exact hS
include hb'
theorem winL_better {P T : Nat} (hP : P = 1 ∨ P = 2) (hT : T = 1 ∨ T = 2) (h : NoWorse (P : Int) xs ys) (hw : winL (R : Int) (C : Int) xs (T : Int) = (P : Int)) : winL (R : Int) (C : Int) ys (T : Int) = (P : Int) := by
  have hS := sides_pos hb
  have hS' := sides_pos hb'
  rw [winL_eq hb hT] at hw
  have hw' := Int.ofNat_inj.1 hw
  rw [winL_eq hb' hT]
  rcases hP with rfl | rfl
  · rw [win_mono (board_of_sides hS) (pos_sets hS) (pos_sets hS') ⟨fun j hj => setL_bit.2 (h.1 j (setL_bit.1 hj)), fun j hj => setL_bit.2 (h.2 j (setL_bit.1 hj))⟩ hT hw']
  · rw [win_mono2 (board_of_sides hS) (pos_sets hS') (pos_sets hS) ⟨fun j hj => setL_bit.2 (h.2 j (setL_bit.1 hj)), fun j hj => setL_bit.2 (h.1 j (setL_bit.1 hj))⟩ hT hw']
end

theorem given_pos {r c : Int} {xs : List Int} {P : Nat} (hP : P = 1 ∨ P = 2) (S : Nat) (hb : posB r c xs = true) : posB r c (givenL xs (P : Int) S) = true := by
  unfold posB at hb ⊢
  rw [Bool.and_eq_true] at hb ⊢
  rw [givenL_length]
  refine ⟨hb.1, ?_⟩
  rw [List.all_eq_true]
  intro x hx
  unfold givenL at hx
  obtain ⟨j, hj, rfl⟩ := List.mem_map.1 hx
  unfold givenAt
  split
  · rcases hP with rfl | rfl <;> rfl
  · have hjl := List.mem_range.1 hj
    have : xs.getD j 0 ∈ xs := by
      rw [List.getD_eq_getElem?_getD, List.getElem?_eq_getElem hjl]; exact List.getElem_mem hjl
    exact List.all_eq_true.1 hb.2 _ this

section
variable {xs : List Int} {P : Nat} (hP : P = 1 ∨ P = 2)
include hP
theorem given_own {S j : Nat} : (givenL xs (P : Int) S)[j]? = some (P : Int) ↔ xs[j]? = some (P : Int) := by
  by_cases hj : j < xs.length
  · rw [givenL_get hj, get_of hj]
    unfold givenAt
    split
    · rename_i h
      rw [h.1]
      constructor
      · intro h2; have := Option.some.inj h2; omega
      · intro h2; have := Option.some.inj h2; omega
    · exact Iff.rfl
  · rw [List.getElem?_eq_none (by rw [givenL_length]; omega), List.getElem?_eq_none (by omega)]
theorem given_other {S j : Nat} : (givenL xs (P : Int) S)[j]? = some (3 - (P : Int)) ↔ xs[j]? = some (3 - (P : Int)) ∨ (xs[j]? = some 0 ∧ S.testBit j = false) := by
  by_cases hj : j < xs.length
  · rw [givenL_get hj, get_of hj]
    unfold givenAt
    split
    · rename_i h
      exact ⟨fun _ => .inr ⟨by rw [h.1], h.2⟩, fun _ => rfl⟩
    · rename_i h
      constructor
      · exact .inl
      · rintro (h2 | ⟨h2, h3⟩)
        · exact h2
        · exact (h ⟨Option.some.inj h2, h3⟩).elim
  · rw [List.getElem?_eq_none (by rw [givenL_length]; omega), List.getElem?_eq_none (by omega)]; simp
theorem given_free {S j : Nat} : (givenL xs (P : Int) S)[j]? = some 0 ↔ xs[j]? = some 0 ∧ S.testBit j = true := by
  by_cases hj : j < xs.length
  · rw [givenL_get hj, get_of hj]
    unfold givenAt
    split
    · rename_i h
      constructor
      · intro h2; have := Option.some.inj h2; omega
      · rintro ⟨_, h3⟩; rw [h.2] at h3; cases h3
    · rename_i h
      constructor
      · intro h2
        refine ⟨h2, ?_⟩
        cases e : S.testBit j with
        | true => rfl
        | false => exact (h ⟨Option.some.inj h2, e⟩).elim
      · exact fun h2 => h2.1
  · rw [List.getElem?_eq_none (by rw [givenL_length]; omega), List.getElem?_eq_none (by omega)]; simp
/-- With more cells it is no worse. -/
theorem given_more {S S' : Nat} (h : ∀ j, xs[j]? = some 0 → S.testBit j = true → S'.testBit j = true) : NoWorse (P : Int) (givenL xs (P : Int) S) (givenL xs (P : Int) S') := by
  refine ⟨fun j hj => (given_own hP).2 ((given_own hP).1 hj), fun j hj => ?_⟩
  rcases (given_other hP).1 hj with h1 | ⟨h1, h2⟩
  · exact (given_other hP).2 (.inl h1)
  · refine (given_other hP).2 (.inr ⟨h1, ?_⟩)
    cases e : S.testBit j with
    | false => rfl
    | true => rw [h j h1 e] at h2; cases h2
end
theorem given_all {xs : List Int} {P : Int} {S : Nat} (h : ∀ j, xs[j]? = some 0 → S.testBit j = true) : givenL xs P S = xs := by
  apply List.ext_getElem?
  intro j
  by_cases hj : j < xs.length
  · rw [givenL_get hj, get_of hj]
    unfold givenAt
    rw [if_neg]
    rintro ⟨h1, h2⟩
    rw [h j (by rw [get_of hj, h1])] at h2; cases h2
  · rw [List.getElem?_eq_none (by rw [givenL_length]; omega), List.getElem?_eq_none (by omega)]
def okL (r c : Int) (xs : List Int) (P S : Int) : Bool := posB r c xs && playerB P && decide (0 ≤ S ∧ S < ((2 ^ xs.length : Nat) : Int))
def carrierL (r c : Int) (xs : List Int) (P S : Int) : Bool := okL r c xs P S && decide (winL r c (givenL xs P S.toNat) (3 - P) = P)
def threatL (r c : Int) (xs : List Int) (P S : Int) : Bool := okL r c xs P S && decide (winL r c (givenL xs P S.toNat) P = P)
theorem okL_iff {r c : Int} {xs : List Int} {P S : Nat} (hP : P = 1 ∨ P = 2) : okL r c xs (P : Int) (S : Int) = true ↔ posB r c xs = true ∧ S < 2 ^ xs.length := by
  unfold okL
  rw [playerB_of hP, Bool.and_true, Bool.and_eq_true, decide_eq_true_eq]
  exact ⟨fun h => ⟨h.1, by omega⟩, fun h => ⟨h.1, by omega⟩⟩

section
variable {R C P : Nat} {xs : List Int} (hb : posB (R : Int) (C : Int) xs = true) (hP : P = 1 ∨ P = 2)
include hb hP
theorem carrier_iff {S : Nat} (hS : S < 2 ^ xs.length) : carrierL (R : Int) (C : Int) xs (P : Int) (S : Int) = true ↔ winL (R : Int) (C : Int) (givenL xs (P : Int) S) ((3 - P : Nat) : Int) = (P : Int) := by
  unfold carrierL
  rw [(okL_iff hP).2 ⟨hb, hS⟩, Bool.true_and, decide_eq_true_eq, show (3 : Int) - (P : Int) = ((3 - P : Nat) : Int) by omega]
  exact Iff.rfl
theorem threat_iff {S : Nat} (hS : S < 2 ^ xs.length) : threatL (R : Int) (C : Int) xs (P : Int) (S : Int) = true ↔ winL (R : Int) (C : Int) (givenL xs (P : Int) S) (P : Int) = (P : Int) := by
  unfold threatL
  rw [(okL_iff hP).2 ⟨hb, hS⟩, Bool.true_and, decide_eq_true_eq]
  exact Iff.rfl
theorem carrier_threat {S : Nat} (hS : S < 2 ^ xs.length) (h : carrierL (R : Int) (C : Int) xs (P : Int) (S : Int) = true) : threatL (R : Int) (C : Int) xs (P : Int) (S : Int) = true := by
  have hO : 3 - P = 1 ∨ 3 - P = 2 := by omega
  have hg := given_pos hP S hb
  exact (threat_iff hb hP hS).2 (winL_first hg (sides_pos hg) hO hP ((carrier_iff hb hP hS).1 h))
theorem carrier_more {S S' : Nat} (hS : S < 2 ^ xs.length) (hS' : S' < 2 ^ xs.length) (hm : ∀ j, xs[j]? = some 0 → S.testBit j = true → S'.testBit j = true) (h : carrierL (R : Int) (C : Int) xs (P : Int) (S : Int) = true) : carrierL (R : Int) (C : Int) xs (P : Int) (S' : Int) = true := by
  have hO : 3 - P = 1 ∨ 3 - P = 2 := by omega
  exact (carrier_iff hb hP hS').2 (winL_better (given_pos hP S hb) (given_pos hP S' hb) hP hO (given_more hP hm) ((carrier_iff hb hP hS).1 h))
theorem all_bits {j : Nat} (hj : xs[j]? = some 0) : (2 ^ xs.length - 1).testBit j = true := by
  have := (List.getElem?_eq_some_iff.1 hj).1
  rw [Nat.testBit_two_pow_sub_one]; simp; omega
theorem carrier_all : carrierL (R : Int) (C : Int) xs (P : Int) ((2 ^ xs.length - 1 : Nat) : Int) = true ↔ winL (R : Int) (C : Int) xs ((3 - P : Nat) : Int) = (P : Int) := by
  rw [carrier_iff hb hP (by have := Nat.two_pow_pos xs.length; omega), given_all fun j hj => all_bits hb hP hj]
theorem threat_all : threatL (R : Int) (C : Int) xs (P : Int) ((2 ^ xs.length - 1 : Nat) : Int) = true ↔ winL (R : Int) (C : Int) xs (P : Int) = (P : Int) := by
  rw [threat_iff hb hP (by have := Nat.two_pow_pos xs.length; omega), given_all fun j hj => all_bits hb hP hj]
/-- A stone of the other one outside a threat does not meet it. -/
theorem threat_meet {S k : Nat} (hS : S < 2 ^ xs.length) (h : threatL (R : Int) (C : Int) xs (P : Int) (S : Int) = true) (hk : xs[k]? = some 0) (hkS : S.testBit k = false) : winL (R : Int) (C : Int) (xs.set k ((3 - P : Nat) : Int)) (P : Int) = (P : Int) := by
  have hO : 3 - P = 1 ∨ 3 - P = 2 := by omega
  have hkl := (List.getElem?_eq_some_iff.1 hk).1
  have e3 : ((3 - P : Nat) : Int) = 3 - (P : Int) := by omega
  refine winL_better (given_pos hP S hb) (pos_set hb hO k) hP hP ⟨fun j hj => ?_, fun j hj => ?_⟩ ((threat_iff hb hP hS).1 h)
  · have := (given_own hP).1 hj
    rw [List.getElem?_set_ne (fun e => by subst e; rw [hk] at this; have := Option.some.inj this; omega)]; exact this
  · refine (given_other hP).2 ?_
    rw [List.getElem?_set] at hj
    split at hj
    · rename_i e; subst e; exact .inr ⟨hk, hkS⟩
    · exact .inl hj
theorem wins_met {S k : Nat} (hS : S < 2 ^ xs.length) (h : threatL (R : Int) (C : Int) xs (P : Int) (S : Int) = true) (hw : winsB (R : Int) (C : Int) xs ((3 - P : Nat) : Int) k = true) : S.testBit k = true := by
  have hO : 3 - P = 1 ∨ 3 - P = 2 := by omega
  cases e : S.testBit k with
  | true => rfl
  | false =>
    have hw' := winsB_iff.1 hw
    have := threat_meet hb hP hS h (moveL_iff.1 hw'.1).2.2.1 e
    have h2 := hw'.2
    rw [show (3 : Int) - ((3 - P : Nat) : Int) = (P : Int) by omega, this] at h2
    omega
end

end Go.Proofs.YtmhflbomploidaaDoor

/- The program's sets of cells: the cells with a stone, the sides, growing and gaps, walked through with the rules of XW. -/
set_option maxRecDepth 20000
namespace Go.Proofs.YtmhflbomploidaaDoor
open Go Go.Ip G

/-! ### sets, without program text -/
theorem bit_of_ne {w : Nat} (h : w ≠ 0) : ∃ j, w.testBit j = true := by
  apply Classical.byContradiction
  intro hh
  refine h (Nat.eq_of_testBit_eq fun j => ?_)
  rw [Nat.zero_testBit]
  cases e : w.testBit j with
  | false => rfl
  | true => exact (hh ⟨j, e⟩).elim

theorem orAll_or : ∀ (L : List Int) (w : Nat), orAll w L = w ||| orAll 0 L
  | [], w => by simp [orAll]
  | e :: l, w => by rw [orAll, orAll_or l, orAll, orAll_or l (0 ||| _), Nat.zero_or, Nat.or_assoc]

theorem wide_step {R C S : Nat} (hB : BoardOf R C) : ∀ (m i w : Nat), i + m = R * C → wideFrom R C S m i w = stepFrom (2 ^ 9 - 1) S i ((masksN R C).drop i) w
  | 0, i, w, h => by rw [List.drop_eq_nil_of_le (by rw [masksN_length]; omega)]; rfl
  | m + 1, i, w, h => by
    have hi : i < (masksN R C).length := by rw [masksN_length]; omega
    have hm : (masksN R C)[i] = orAll 0 (nearN R C i) := by simp [masksN]
    have hlt : (masksN R C)[i] < 2 ^ 9 := masksN_lt hB _ (List.getElem_mem hi)
    have ha : (masksN R C)[i] &&& (2 ^ 9 - 1) = (masksN R C)[i] := by rw [Nat.and_two_pow_sub_one_eq_mod, Nat.mod_eq_of_lt hlt]
    rw [wideFrom, List.drop_eq_getElem_cons hi, stepFrom, Nat.and_one_is_mod, wide_step hB m (i + 1) _ (by omega), ha, hm]
    congr 1
    by_cases e : S >>> i % 2 = 1
    · rw [if_pos e, if_neg (by omega), orAll_or]
    · rw [if_neg e, if_pos (by omega)]

theorem wide_bit {R C S : Nat} (hB : BoardOf R C) (j : Nat) : (wideN R C S).testBit j = true ↔ S.testBit j = true ∨ ∃ k, S.testBit k = true ∧ Adj (masksN R C) k j := by
  unfold wideN
  rw [wide_step hB _ 0 S (by omega), List.drop_zero, stepFrom_bit]
  refine or_congr_right ⟨fun ⟨i, h1, h2, _⟩ => ⟨i, by simpa using h1, h2⟩, fun ⟨i, h1, h2⟩ => ⟨i, by simpa using h1, h2, ?_⟩⟩
  have := (adj_in hB h2).2
  have h9 := hB.2.2.2.2
  rw [Nat.testBit_two_pow_sub_one]; simp; omega

theorem wide_lt {R C S : Nat} (hB : BoardOf R C) (hS : S < 2 ^ 9) : wideN R C S < 2 ^ 9 := by
  obtain ⟨h1, h2, h3, h4, h9⟩ := hB; exact wideFrom_lt h1 h2 h3 h4 h9 _ _ _ (by omega) hS

theorem grown_is {M : List Nat} {S T X : Nat} (hS : S < 2 ^ 9) (hT : T < 2 ^ 9) (h0 : ∀ j, S.testBit j = true → X.testBit j = true) (hr : ∀ j, X.testBit j = true → Reach M (S ||| T) S j)
    (hc : ∀ k j, X.testBit k = true → Adj M k j → T.testBit j = true → X.testBit j = true) : X = growN M (S ||| T) S := by
  apply Nat.eq_of_testBit_eq
  intro j
  rw [Bool.eq_iff_iff, grow_bit (Nat.or_lt_two_pow hS hT)]
  refine ⟨hr j, fun h => ?_⟩
  induction h with
  | start h _ => exact h0 _ h
  | step _ ha hs ih =>
    rw [Nat.testBit_or, Bool.or_eq_true] at hs
    rcases hs with hs | hs
    · exact h0 _ hs
    · exact hc _ _ ih ha hs

theorem grown_in {M : List Nat} {own first : Nat} : growN M ((first &&& own) ||| own) (first &&& own) = growN M own first := by
  have : (first &&& own) ||| own = own := by
    apply Nat.eq_of_testBit_eq; intro j
    rw [Nat.testBit_or, Nat.testBit_and]; cases first.testBit j <;> cases own.testBit j <;> rfl
  rw [this]
  unfold growN
  rw [Nat.and_assoc, Nat.and_self]

theorem listN_filter (S : Nat) : listN S = ((List.range 9).filter S.testBit).map fun k : Nat => (k : Int) := by
  have : ∀ m k, listFrom S m k = ((List.range' k m).filter S.testBit).map fun k : Nat => (k : Int) := by
    intro m
    induction m with
    | zero => intro k; rfl
    | succ m ih =>
      intro k
      rw [listFrom, List.range'_succ, List.filter_cons, ih]
      by_cases e : S >>> k % 2 = 1
      · rw [if_pos e, if_pos ((bit_iff S k).1 e), List.map_cons]
      · rw [if_neg e, if_neg (fun h => e ((bit_iff S k).2 h))]
  rw [List.range_eq_range']; exact this 9 0

variable (g : Nat → PV) (lf n : Nat)

/-! ### the program -/
theorem playerOk_W (N : Nat) (hN : 1 ≤ N) (h : PHeap) (p : Int) : CL g lf N fn_impl_playerOk [.int .i64 p] h = some (.bool (playerB p), h) := by
  obtain ⟨n, rfl⟩ : ∃ n, N = n + 1 := ⟨N - 1, by omega⟩
  have : W (CL g lf (n + 1) fn_impl_playerOk [.int .i64 p] h) fun v h' => v = .bool (playerB p) ∧ h' = h := by
    rw [impl_playerOk.call_eq]
    unfold impl_playerOk.main
    simp only [env_pick, env_bin]
    refine weql (fun e => ?_) (fun e => ?_)
    · repeat (first | with_reducible refine wg0 rfl ?_ | with_reducible refine wpT ?_ | with_reducible refine wsm ?_ | with_reducible refine wrB ?_ | dsimp only)
      exact W.ret ⟨by subst e; rfl, rfl⟩
    · repeat (first | with_reducible refine wg1 rfl ?_ | with_reducible refine wpv ?_ | with_reducible refine wsm ?_ | dsimp only)
      refine weql (fun e2 => ?_) (fun e2 => ?_)
      · repeat (first | with_reducible refine wpF ?_ | with_reducible refine wrB ?_)
        exact W.ret ⟨by subst e2; rfl, rfl⟩
      · repeat (first | with_reducible refine wpF ?_ | with_reducible refine wrB ?_)
        exact W.ret ⟨by rw [show playerB p = false by unfold playerB; exact decide_eq_false (by omega)], rfl⟩
  obtain ⟨_, _, e, rfl, rfl⟩ := this
  exact e

theorem setOf_W {xs : List Int} {p : PV} {h : PHeap} (what : Int) (hp : IntSl .i64 h p xs) (hl : xs.length ≤ 20) (N : Nat) (hN : 1 ≤ N) (hlf : 1000 < lf) :
    CL g lf N fn_impl_setOf [p, .int .i64 what] h = some (.int .i64 (setL xs what : Int), h) := by
  obtain ⟨n, rfl⟩ : ∃ n, N = n + 1 := ⟨N - 1, by omega⟩
  have : W (CL g lf (n + 1) fn_impl_setOf [p, .int .i64 what] h) fun v h' => v = .int .i64 (setL xs what : Int) ∧ h' = h := by
    rw [impl_setOf.call_eq]
    unfold impl_setOf.main
    simp only [env_lf, env_len]
    repeat (first | with_reducible refine wlen (by assumption) ?_)
    refine loopW (fun m s => ∃ i w : Nat, s = impl_setOf.st0 (.int .i64 what) (.int .i64 (w : Int)) p (.int .i64 (xs.length : Int)) (.int .i64 (i : Int)) h ∧ i + m = xs.length ∧ w < 2 ^ 30 ∧ setFrom what i (xs.drop i) w = setL xs what) ?_ lf xs.length _ (by omega) ⟨0, 0, rfl, by omega, by decide, rfl⟩
    rintro n1 m s ⟨i, w, rfl, him, hw, hset⟩ next
    rw [impl_setOf.body0_eq]
    unfold impl_setOf.body0
    simp only [env_load, env_bin, env_indexAddr]
    by_cases hi : i < xs.length
    · have hdx : xs.drop i = xs[i] :: xs.drop (i + 1) := List.drop_eq_getElem_cons hi
      have h30 : 1 <<< i < 2 ^ 30 := by rw [Nat.one_shiftLeft]; exact Nat.pow_lt_pow_right (by decide) (by omega)
      rw [hdx, setFrom] at hset
      repeat (first | with_reducible refine wT ?_ | with_reducible refine wbd (by assumption) ?_ | (with_reducible refine wat hp hi fun a hl => ?_) | with_reducible refine wlssT (by omega) ?_)
      refine weql (fun e => ?_) (fun e => ?_)
      · repeat (first | with_reducible refine wT ?_ | with_reducible refine wadd1 (by omega) ?_ | with_reducible refine wshl (by omega) ?_ | with_reducible refine wor (by omega) (by omega) ?_)
        rw [if_pos e] at hset
        exact next _ _ (show m - 1 < m by omega) ⟨i + 1, _, rfl, by omega, Nat.or_lt_two_pow hw h30, hset⟩
      · repeat (first | with_reducible refine wF ?_ | with_reducible refine wadd1 (by omega) ?_)
        rw [if_neg e] at hset
        exact next _ _ (show m - 1 < m by omega) ⟨i + 1, _, rfl, by omega, hw, hset⟩
    · rw [List.drop_eq_nil_of_le (by omega), setFrom] at hset
      repeat (first | with_reducible refine wF ?_ | with_reducible refine wrI ?_ | with_reducible refine wlssF (by omega) ?_ | rw [kLoop_exit] | rw [impl_setOf.after0_se0_1_5_8_9_10_11])
      exact W.ret ⟨by rw [hset], rfl⟩
  obtain ⟨_, _, e, rfl, rfl⟩ := this
  exact e

theorem cellsIn_W {S : Nat} (hS : S < 2 ^ 9) (N : Nat) (hN : 1 ≤ N) (hlf : 1000 < lf) (h : PHeap) :
    W (CL g lf N fn_impl_cellsIn [.int .i64 (S : Int)] h) fun q h' => OwnSl h.length h' q (listN S) ∧ Keep h.length h h' := by
  obtain ⟨n, rfl⟩ : ∃ n, N = n + 1 := ⟨N - 1, by omega⟩
  rw [impl_cellsIn.call_eq]
  unfold impl_cellsIn.main
  simp only [env_lf]
  refine loopW (fun m s => ∃ (i : Nat) (ys : List Int) (q : PV) (h1 : PHeap), s = impl_cellsIn.st0 (.int .i64 (S : Int)) q (.int .i64 (i : Int)) h1 ∧ i + m = 9 ∧ ys.length ≤ i ∧ ys ++ listFrom S m i = listN S ∧ OwnSl h.length h1 q ys ∧ Keep h.length h h1) ?_ lf 9 _ (by omega) ⟨0, [], _, h, rfl, by omega, by simp, rfl, OwnSl.nil _ _, Keep.refl _ _⟩
  rintro n1 m s ⟨i, ys, q, h1, rfl, him, hy, hL, o1, k1⟩ next
  rw [impl_cellsIn.body0_eq]
  unfold impl_cellsIn.body0
  simp only [env_buildSlice, env_bin, env_append]
  cases m with
  | zero =>
    rw [listFrom, List.append_nil] at hL
    repeat (first | with_reducible refine wF ?_ | with_reducible refine wlssF (by omega) ?_ | with_reducible refine wresO (by assumption) ?_ | rw [kLoop_exit] | rw [impl_cellsIn.after0_se0_0_3_5_6])
    exact W.ret ⟨hL ▸ o1, k1⟩
  | succ m =>
    have hsh : S >>> i < 2 ^ 62 := by have : S >>> i ≤ S := by { rw [Nat.shiftRight_eq_div_pow]; exact Nat.div_le_self _ _ }; omega
    rw [listFrom, ← Nat.and_one_is_mod] at hL
    repeat (first | with_reducible refine wT ?_ | with_reducible refine wshr (by omega) ?_ | with_reducible refine wlssT (by omega) ?_)
    refine wbd (f_and (a := S >>> i) (b := 1) hsh (by decide)) ?_
    refine weql (fun e => ?_) (fun e => ?_)
    · have e' : S >>> i &&& 1 = 1 := by simpa using Int.ofNat_inj.1 e
      rw [if_pos e'] at hL
      repeat (first | with_reducible refine wT ?_ | (refine wap o1 k1.1 (by omega) fun p' h' o2 k2 => ?_) | with_reducible refine wadd1 (by omega) ?_ | dsimp only)
      exact next _ _ (Nat.lt_succ_self m) ⟨i + 1, ys ++ [(i : Int)], p', h', rfl, by omega, by simp; omega, by rw [List.append_assoc]; exact hL, o2, k1.trans k2⟩
    · have e' : ¬ S >>> i &&& 1 = 1 := fun e2 => e (by rw [e2]; rfl)
      rw [if_neg e'] at hL
      repeat (first | with_reducible refine wF ?_ | with_reducible refine wadd1 (by omega) ?_)
      exact next _ _ (Nat.lt_succ_self m) ⟨i + 1, ys, q, h1, rfl, by omega, by omega, hL, o1, k1⟩

theorem sidesOf_W {R C P : Nat} (hB : BoardOf R C) (hP : P = 1 ∨ P = 2) (N : Nat) (hN : 1 ≤ N) (hlf : 1000 < lf) (h : PHeap) :
    CL g lf N fn_impl_sidesOf [.int .i64 (R : Int), .int .i64 (C : Int), .int .i64 (P : Int)] h = some (.tup [.int .i64 (sideN R C P false : Int), .int .i64 (sideN R C P true : Int)], h) := by
  obtain ⟨n, rfl⟩ : ∃ n, N = n + 1 := ⟨N - 1, by omega⟩
  have : W (CL g lf (n + 1) fn_impl_sidesOf [.int .i64 (R : Int), .int .i64 (C : Int), .int .i64 (P : Int)] h) fun v h' => v = .tup [.int .i64 (sideN R C P false : Int), .int .i64 (sideN R C P true : Int)] ∧ h' = h := by
    obtain ⟨h1, h2, h3, h4, h9⟩ := id hB
    rw [impl_sidesOf.call_eq]
    unfold impl_sidesOf.main
    simp only [env_lf, env_bin]
    repeat (first | with_reducible refine wmulN (by omega) ?_)
    refine loopW (fun m s => ∃ i w1 w2 : Nat, s = impl_sidesOf.st0 (.int .i64 (R : Int)) (.int .i64 (C : Int)) (.int .i64 (P : Int)) (.int .i64 (w1 : Int)) (.int .i64 (w2 : Int)) (.int .i64 ((R * C : Nat) : Int)) (.int .i64 (i : Int)) h ∧ i + m = R * C ∧ w1 < 2 ^ 9 ∧ w2 < 2 ^ 9 ∧ sideFrom R C P false m i w1 = sideN R C P false ∧ sideFrom R C P true m i w2 = sideN R C P true) ?_ lf (R * C) _ (by omega) ⟨0, 0, 0, rfl, by omega, by decide, by decide, rfl, rfl⟩
    rintro n1 m s ⟨i, w1, w2, rfl, him, hw1, hw2, hs1, hs2⟩ next
    rw [impl_sidesOf.body0_eq]
    unfold impl_sidesOf.body0
    simp only [env_bin]
    cases m with
    | zero =>
      rw [sideFrom] at hs1 hs2
      repeat (first | with_reducible refine wF ?_ | with_reducible refine wrI ?_ | with_reducible refine wlssF (by omega) ?_ | rw [kLoop_exit] | rw [impl_sidesOf.after0_se0_0_1_2_8_9_15_16_17])
      exact W.ret ⟨by rw [hs1, hs2], rfl⟩
    | succ m =>
      have hsl := shl_lt (show i < 9 by omega)
      rw [sideFrom] at hs1 hs2
      simp only [cond_true, cond_false, decide_eq_true_eq] at hs1 hs2
      obtain ⟨x, hx⟩ : ∃ x, x = atSide C P i := ⟨_, rfl⟩
      obtain ⟨y, hy⟩ : ∃ y, y = endSide R C P := ⟨_, rfl⟩
      rw [← hx] at hs1 hs2
      rw [← hy] at hs2
      have l1 := Nat.or_lt_two_pow hw1 hsl
      have l2 := Nat.or_lt_two_pow hw2 hsl
      rcases hP with rfl | rfl
      · have hx' : x = i / C := hx
        have hy' : y = R - 1 := hy
        by_cases a0 : x = 0 <;> by_cases a1 : x = y 
        all_goals
          first | rw [if_pos a0] at hs1 | rw [if_neg a0] at hs1
          first | rw [if_pos a1] at hs2 | rw [if_neg a1] at hs2
          repeat (first | with_reducible refine wT ?_ | with_reducible refine wF ?_ | (rw [← hx', ← hy']) | with_reducible refine wadd1 (by omega) ?_ | with_reducible refine wsub1 (by omega) (by omega) ?_ | with_reducible refine wquoN (by omega) (by omega) ?_ | with_reducible refine wshl (by omega) ?_ | with_reducible refine wor (by omega) (by omega) ?_ | with_reducible refine wlssT (by omega) ?_ | with_reducible refine weqlT (by omega) ?_ | with_reducible refine weqlF (by omega) ?_)
          first
            | exact next _ _ (Nat.lt_succ_self m) ⟨i + 1, _, _, rfl, by omega, l1, l2, hs1, hs2⟩
            | exact next _ _ (Nat.lt_succ_self m) ⟨i + 1, _, _, rfl, by omega, hw1, l2, hs1, hs2⟩
            | exact next _ _ (Nat.lt_succ_self m) ⟨i + 1, _, _, rfl, by omega, l1, hw2, hs1, hs2⟩
            | exact next _ _ (Nat.lt_succ_self m) ⟨i + 1, _, _, rfl, by omega, hw1, hw2, hs1, hs2⟩
      · have hx' : x = i % C := hx
        have hy' : y = C - 1 := hy
        by_cases a0 : x = 0 <;> by_cases a1 : x = y 
        all_goals
          first | rw [if_pos a0] at hs1 | rw [if_neg a0] at hs1
          first | rw [if_pos a1] at hs2 | rw [if_neg a1] at hs2
          repeat (first | with_reducible refine wT ?_ | with_reducible refine wF ?_ | (rw [← hx', ← hy']) | with_reducible refine wadd1 (by omega) ?_ | with_reducible refine wsub1 (by omega) (by omega) ?_ | with_reducible refine wquoN (by omega) (by omega) ?_ | with_reducible refine wremN (by omega) ?_ | with_reducible refine wshl (by omega) ?_ | with_reducible refine wor (by omega) (by omega) ?_ | with_reducible refine wlssT (by omega) ?_ | with_reducible refine weqlT (by omega) ?_ | with_reducible refine weqlF (by omega) ?_)
          first
            | exact next _ _ (Nat.lt_succ_self m) ⟨i + 1, _, _, rfl, by omega, l1, l2, hs1, hs2⟩
            | exact next _ _ (Nat.lt_succ_self m) ⟨i + 1, _, _, rfl, by omega, hw1, l2, hs1, hs2⟩
            | exact next _ _ (Nat.lt_succ_self m) ⟨i + 1, _, _, rfl, by omega, l1, hw2, hs1, hs2⟩
            | exact next _ _ (Nat.lt_succ_self m) ⟨i + 1, _, _, rfl, by omega, hw1, hw2, hs1, hs2⟩
  obtain ⟨_, _, e, rfl, rfl⟩ := this
  exact e

theorem grown_W {R C S T : Nat} (hB : BoardOf R C) (hS : S < 2 ^ 9) (hT : T < 2 ^ 9) (N : Nat) (hN : 6 ≤ N) (hlf : 1000 < lf) {h : PHeap} (ht : Tab g h) :
    ∃ h', CL g lf N fn_impl_grown [.int .i64 (R : Int), .int .i64 (C : Int), .int .i64 (S : Int), .int .i64 (T : Int)] h = some (.int .i64 (growN (masksN R C) (S ||| T) S : Int), h') ∧ Keep h.length h h' := by
  obtain ⟨n, rfl⟩ : ∃ n, N = n + 1 := ⟨N - 1, by omega⟩
  have : W (CL g lf (n + 1) fn_impl_grown [.int .i64 (R : Int), .int .i64 (C : Int), .int .i64 (S : Int), .int .i64 (T : Int)] h) fun v h' => v = .int .i64 (growN (masksN R C) (S ||| T) S : Int) ∧ Keep h.length h h' := by
    rw [impl_grown.call_eq]
    unfold impl_grown.main
    simp only [env_lf]
    refine loopW (fun m s => ∃ (X w : Nat) (h1 : PHeap), s = impl_grown.st0 (.int .i64 (R : Int)) (.int .i64 (C : Int)) (.int .i64 (X : Int)) (.int .i64 (T : Int)) (.int .i64 (w : Int)) h1 ∧ Keep h.length h h1 ∧ Tab g h1 ∧ X < 2 ^ 9 ∧ (∀ j, w.testBit j = true → X.testBit j = true) ∧
      (∀ j, S.testBit j = true → X.testBit j = true) ∧ (∀ j, X.testBit j = true → Reach (masksN R C) (S ||| T) S j) ∧ (∀ k j, X.testBit k = true → w.testBit k = false → Adj (masksN R C) k j → T.testBit j = true → X.testBit j = true) ∧ m = (512 - X) + (if w = 0 then 0 else 1)) ?_ lf (512 - S + (if S = 0 then 0 else 1)) _ (by split <;> omega)
      ⟨S, S, h, rfl, Keep.refl _ _, ht, hS, fun _ h => h, fun _ h => h, fun j hj => .start hj (by rw [Nat.testBit_or, hj]; rfl), fun k j h1 h2 _ _ => (by rw [h1] at h2; cases h2), rfl⟩
    rintro n1 m s ⟨X, w, h1, rfl, k1, t1, hX, hw, hSX, hXr, hc, hm⟩ next
    rw [impl_grown.body0_eq]
    unfold impl_grown.body0
    simp only [env_C, env_bin]
    by_cases e : w = 0
    · repeat (first | with_reducible refine wF ?_ | with_reducible refine wrI ?_ | with_reducible refine wneqF (by omega) ?_ | rw [kLoop_exit] | rw [impl_grown.after0_se0_0_1_2_3_9_12])
      refine W.ret ⟨?_, k1⟩
      rw [grown_is hS hT hSX hXr fun k j h1 h2 h3 => hc k j h1 (by rw [e, Nat.zero_testBit]) h2 h3]
    · have hw9 : w < 2 ^ 9 := Nat.lt_of_le_of_lt (sub_le hw) hX
      obtain ⟨b1, b2, b3, b4, b5⟩ := id hB
      obtain ⟨h2, e2, k2⟩ := withNear_calls g lf b1 b2 b3 b4 b5 hw9 n (by omega) (by omega) t1
      have hwl := wide_lt hB hw9
      have hal : wideN R C w &&& T < 2 ^ 9 := Nat.and_lt_two_pow _ hT
      have hml : minusN (wideN R C w &&& T) X < 2 ^ 9 := minusN_lt hal
      repeat (first | with_reducible refine wT ?_ | with_reducible refine wbd (by assumption) ?_ | with_reducible refine wand (by omega) (by omega) ?_ | with_reducible refine wor (by omega) (by omega) ?_ | with_reducible refine wandNot (by omega) (by omega) ?_ | with_reducible refine wneqT (by omega) ?_ | dsimp only)
      obtain ⟨w', hw'⟩ : ∃ w', w' = minusN (wideN R C w &&& T) X := ⟨_, rfl⟩
      have hb : ∀ j, w'.testBit j = true ↔ (w.testBit j = true ∨ ∃ k, w.testBit k = true ∧ Adj (masksN R C) k j) ∧ T.testBit j = true ∧ X.testBit j = false := fun j => by
        rw [hw', minusN_bit, Nat.testBit_and, ← wide_bit hB]; cases (wideN R C w).testBit j <;> cases T.testBit j <;> cases X.testBit j <;> simp
      rw [← hw'] at hml ⊢
      have hor : X ||| w' < 2 ^ 9 := Nat.or_lt_two_pow hX hml
      have hle : X ≤ X ||| w' := Nat.left_le_or
      have hne : w' ≠ 0 → X ≠ X ||| w' := fun hz he => by
        obtain ⟨j, hj⟩ := bit_of_ne hz
        have h1 := ((hb j).1 hj).2.2
        rw [he, Nat.testBit_or, hj, Bool.or_true] at h1; cases h1
      refine next _ _ ?_ ⟨X ||| w', w', h2, rfl, k1.trans (k2.mono k1.1), t1.keep k2, hor, fun j hj => by rw [Nat.testBit_or, hj, Bool.or_true], fun j hj => by rw [Nat.testBit_or, hSX j hj, Bool.true_or], ?_, ?_, rfl⟩
      · rw [hm, if_neg e]
        by_cases e' : w' = 0
        · rw [if_pos e']; omega
        · rw [if_neg e']; have := hne e'; omega
      · intro j hj
        rw [Nat.testBit_or, Bool.or_eq_true] at hj
        rcases hj with hj | hj
        · exact hXr j hj
        · obtain ⟨h1 | ⟨k, h1, h2⟩, h3, h4⟩ := (hb j).1 hj
          · rw [hw j h1] at h4; cases h4
          · exact .step (hXr k (hw k h1)) h2 (by rw [Nat.testBit_or, h3, Bool.or_true])
      · intro k j h1 h2 h3 h4
        rw [Nat.testBit_or, h2, Bool.or_false] at h1
        rw [Nat.testBit_or]
        by_cases hk : w.testBit k = true
        · cases hx : X.testBit j with
          | true => rfl
          | false => rw [(hb j).2 ⟨.inr ⟨k, hk, h3⟩, h4, hx⟩]; rfl
        · rw [hc k j h1 (by simpa using hk) h3 h4]; rfl
  obtain ⟨_, h', e, rfl, k⟩ := this
  exact ⟨h', e, k⟩

end Go.Proofs.YtmhflbomploidaaDoor

/- The model's chapters 4 and 5: what Openings, PairCell, PairFilled, MattersAt, DeadCells, FillCount and PivotCount of it compute. -/
set_option maxRecDepth 20000
namespace Go.Proofs.YtmhflbomploidaaDoor
open Go Go.Ip G

theorem f_shlN (x y : Nat) (hx : x ≤ 512) (hy : y ≤ 30) : binP Tryd.prog .shl 3 (.int .i64 (x : Int)) (.int .i64 (y : Int)) = some (.int .i64 ((x <<< y : Nat) : Int)) := by
  have h0 : ¬ ((y : Int) < 0) := by omega
  have hm : min ((y : Int).toNat) (IntKind.i64.bits) = y := by
    have : IntKind.i64.bits = 64 := rfl
    rw [this]; omega
  simp only [binP, shI, if_neg h0, hm]
  congr 2
  rw [Nat.shiftLeft_eq]
  have : ((2 : Int) ^ y) = ((2 ^ y : Nat) : Int) := by simp
  rw [this, ← Int.natCast_mul]
  have hle : 2 ^ y ≤ 2 ^ 30 := Nat.pow_le_pow_right (by decide) hy
  have : x * 2 ^ y ≤ 512 * 2 ^ 30 := Nat.mul_le_mul hx hle
  exact wr (by omega)

section
variable {Q : PV → PHeap → Prop} {x y : Nat} {f : PV → Res}
theorem wshlN (hx : x ≤ 512) (hy : y ≤ 30) (hf : W (f (.int .i64 ((x <<< y : Nat) : Int))) Q) : W ((binP Tryd.prog .shl 3 (.int .i64 (x : Int)) (.int .i64 (y : Int))).bind f) Q := wbd (f_shlN x y hx hy) hf
end

variable (g : Nat → PV) (lf n : Nat)

/-! ### pairs -/
theorem boardB_of {r c : Int} (h : boardB r c = true) : ∃ R C : Nat, r = (R : Int) ∧ c = (C : Int) ∧ BoardOf R C := by
  unfold boardB at h
  have := of_decide_eq_true h
  obtain ⟨R, rfl⟩ := Int.eq_ofNat_of_zero_le (show 0 ≤ r by omega)
  obtain ⟨C, rfl⟩ := Int.eq_ofNat_of_zero_le (show 0 ≤ c by omega)
  have h9 := this.2.2.2.2
  rw [← Int.natCast_mul] at h9
  exact ⟨R, C, rfl, rfl, by omega, by omega, by omega, by omega, by omega⟩
theorem boardOk_spec (N : Nat) (hN : 2 ≤ N) (h : PHeap) (r c : Int) : CL g lf N fn_spec_BoardOk [.int .i64 r, .int .i64 c] h = some (.bool (boardB r c), h) := by
  obtain ⟨n, rfl⟩ : ∃ n, N = n + 2 := ⟨N - 2, by omega⟩
  exact specBoardOk_calls g lf n h r c

/-! ### fillings -/
theorem listN_cells (S : Nat) : listN S = (cellsN S).map fun k : Nat => (k : Int) := listN_filter S
theorem cells_len9 (S : Nat) : (cellsN S).length ≤ 9 := by
  unfold cellsN; have := List.length_filter_le S.testBit (List.range 9); rw [List.length_range] at this; exact this
theorem fillN_lt : ∀ {l : List Nat} {m : Nat}, (∀ j ∈ l, j < 9) → fillN l m < 2 ^ 9
  | [], _, _ => by rw [fillN]; decide
  | c :: l, m, h => by
    have hc := h c (List.mem_cons_self ..)
    have ih := fillN_lt (l := l) (m := m / 2) fun j hj => h j (List.mem_cons_of_mem _ hj)
    rw [fillN]
    refine Nat.or_lt_two_pow ?_ ih
    have := Nat.mod_two_eq_zero_or_one m
    rcases this with e | e
    · rw [e, Nat.zero_shiftLeft]; decide
    · rw [e]; exact shl_lt hc

theorem fill_W {l : List Nat} {p : PV} {h : PHeap} (hl : ∀ j ∈ l, j < 9) (hl9 : l.length ≤ 9) (hp : IntSl .i64 h p (l.map fun k : Nat => (k : Int))) {m : Nat} (hm : m < 2 ^ 62) (hlf : 1000 < lf) (N : Nat) (hN : 1 ≤ N) :
    CL g lf N fn_spec_l5Fill [p, .int .i64 (m : Int)] h = some (.int .i64 ((fillN l m : Nat) : Int), h) := by
  obtain ⟨n, rfl⟩ : ∃ n, N = n + 1 := ⟨N - 1, by omega⟩
  have hlen := hp.len'
  rw [List.length_map] at hlen
  have : W (CL g lf (n + 1) fn_spec_l5Fill [p, .int .i64 (m : Int)] h) fun v h' => v = .int .i64 ((fillN l m : Nat) : Int) ∧ h' = h := by
    rw [spec_l5Fill.call_eq]
    unfold spec_l5Fill.main
    simp only [env_lf]
    refine loopW (fun u s => ∃ k w : Nat, s = spec_l5Fill.st0 p (.int .i64 (m : Int)) (.int .i64 (w : Int)) (.int .i64 (k : Int)) h ∧ k + u = l.length ∧ w < 2 ^ 9 ∧ w ||| fillN (l.drop k) (m >>> k) = fillN l m) ?_ lf l.length _ (by omega) ⟨0, 0, rfl, by omega, by decide, by rw [Nat.zero_or]; rfl⟩
    rintro n1 u s ⟨k, w, rfl, hku, hw, hf⟩ next
    rw [spec_l5Fill.body0_eq]
    unfold spec_l5Fill.body0
    simp only [env_load, env_bin, env_indexAddr, env_len]
    cases u with
    | zero =>
      rw [List.drop_eq_nil_of_le (by omega), fillN, Nat.or_zero] at hf
      repeat (first | with_reducible refine wF ?_ | with_reducible refine wrI ?_ | with_reducible refine wbd (by assumption) ?_ | with_reducible refine wlssF (by omega) ?_ | rw [kLoop_exit] | rw [spec_l5Fill.after0_se0_0_1_5_6_10])
      exact W.ret ⟨by rw [hf], rfl⟩
    | succ u =>
      have hk : k < l.length := by omega
      have hkm : k < (l.map fun k : Nat => (k : Int)).length := by rw [List.length_map]; exact hk
      have hd : l.drop k = l[k] :: l.drop (k + 1) := List.drop_eq_getElem_cons hk
      have hj9 := hl l[k] (List.getElem_mem hk)
      have hget : (l.map fun k : Nat => (k : Int))[k] = (l[k] : Int) := List.getElem_map ..
      have hsh : m >>> (k + 1) = m >>> k / 2 := Nat.shiftRight_succ m k
      rw [hd, fillN, ← hsh] at hf
      obtain ⟨j, hj⟩ : ∃ j, j = l[k] := ⟨_, rfl⟩
      rw [← hj] at hf hj9 hget
      obtain ⟨b, hbt⟩ : ∃ b, b = m >>> k % 2 := ⟨_, rfl⟩
      have hb1 : b ≤ 1 := by rw [hbt]; omega
      rw [← hbt] at hf
      have hsl : b <<< j < 2 ^ 9 := by
        have : b = 0 ∨ b = 1 := by omega
        rcases this with e | e
        · rw [e, Nat.zero_shiftLeft]; decide
        · rw [e]; exact shl_lt hj9
      have hor := Nat.or_lt_two_pow hw hsl
      repeat (first | with_reducible refine wT ?_ | with_reducible refine wbd (by assumption) ?_ | (rw [← hbt]) | (with_reducible refine wat hp hkm fun a hl => ?_) | with_reducible refine wrem2 ?_ | with_reducible refine wshr (by omega) ?_ | with_reducible refine wlssT (by omega) ?_)
      rw [hget]
      refine wshlN (by omega) (by omega) ?_
      repeat (first | with_reducible refine wadd1 (by omega) ?_ | with_reducible refine wor (by omega) (by omega) ?_)
      exact next _ _ (Nat.lt_succ_self u) ⟨k + 1, w ||| b <<< j, rfl, by omega, hor, by rw [Nat.or_assoc]; exact hf⟩
  obtain ⟨_, _, e, rfl, rfl⟩ := this
  exact e

/-! ### what one cell decides -/
end Go.Proofs.YtmhflbomploidaaDoor

/- The laws of chapter 4 over what the program's functions are asked to compute. -/
set_option maxRecDepth 20000
namespace Go.Proofs.YtmhflbomploidaaDoor
open Go Go.Ip G

variable (g : Nat → PV) (lf n : Nat)

/-! ### the exact laws -/
end Go.Proofs.YtmhflbomploidaaDoor

/- The laws of chapter 5 over what the program's functions are asked to compute. -/
set_option maxRecDepth 20000
namespace Go.Proofs.YtmhflbomploidaaDoor
open Go Go.Ip G

section
variable {R C : Nat} {xs : List Int} (hb : posB (R : Int) (C : Int) xs = true)
include hb
end

variable (g : Nat → PV) (lf n : Nat)

/-! ### the exact laws -/
end Go.Proofs.YtmhflbomploidaaDoor

/- The draws of chapter 6. -/
set_option maxRecDepth 20000
namespace Go.Proofs.YtmhflbomploidaaDoor
open Go Go.Ip G

section
variable {Q : PV → PHeap → Prop} {x : Nat} {f : PV → Res}
theorem wquo59 (h2 : x < 4611686018427387904) (hf : W (f (.int .i64 ((x / 59 : Nat) : Int))) Q) : W ((binP Tryd.prog .quo 3 (.int .i64 (x : Int)) (.int .i64 59)).bind f) Q := wquoN (y := 59) (by decide) h2 hf
end

variable (g : Nat → PV) (lf n : Nat)

theorem carried_W {h : PHeap} {id m : Nat} (N : Nat) (hN : 7 ≤ N) (hr : Rd h id m) (hm : m ≤ 500000) (hlf : 20 < lf) :
    W (CL g lf N fn_spec_l20Carried [.ptr id 0] h) fun v h' => ∃ (r c : Int) (q : PV) (xs : List Int) (pl : Int) (S : Nat), v = .tup [.int .i64 r, .int .i64 c, q, .int .i64 pl, .int .i64 (S : Int)] ∧ Keep id h h' ∧ OwnSl (id + 1) h' q xs ∧ xs.length ≤ 10 ∧ 1 ≤ pl ∧ pl ≤ 4 ∧ S < 4096 := by
  obtain ⟨n, rfl⟩ : ∃ n, N = n + 1 := ⟨N - 1, by omega⟩
  rw [spec_l20Carried.call_eq]
  unfold spec_l20Carried.main
  simp only [env_C, env_bin, env_extract, env_len]
  refine wcall (few2_W g lf n (by omega) 6 hr (by omega) hlf) fun v h1 ⟨r, c, q, xs, pl, hv, k1, o1, hl, hp1, hp2, r1, _⟩ => ?_
  subst hv
  have hlen := o1.int.len'
  have hpow : 2 ^ xs.length ≤ 1024 := Nat.pow_le_pow_right (n := 2) (by decide) hl
  have hpow1 : 1 ≤ 2 ^ xs.length := Nat.one_le_two_pow
  have h1s : 1 <<< xs.length = 2 ^ xs.length := Nat.one_shiftLeft _
  obtain ⟨M, hM⟩ : ∃ M, M = 1 <<< xs.length := ⟨_, rfl⟩
  obtain ⟨v1, h2, e2, r2, ok2, a1, a2, _⟩ := pick_calls g lf n (by omega) (M : Int) r1 (by omega) (by omega)
  have a2' := a2 (by omega)
  obtain ⟨v2, h3, e3, r3, ok3, b1, b2, _⟩ := pick_calls g lf n (by omega) (M : Int) r2 (by omega) (by omega)
  have b2' := b2 (by omega)
  obtain ⟨v3, h4, e4, r4, ok4, c1, c2, _⟩ := pick_calls g lf n (by omega) 60 r3 (by omega) (by omega)
  have c2' := c2 (by omega)
  obtain ⟨V1, rfl⟩ := Int.eq_ofNat_of_zero_le a1
  obtain ⟨V2, rfl⟩ := Int.eq_ofNat_of_zero_le b1
  obtain ⟨V3, rfl⟩ := Int.eq_ofNat_of_zero_le c1
  have o4 := ((o1.keepOnly ok2 (by omega)).keepOnly ok3 (by omega)).keepOnly ok4 (by omega)
  have hor : V1 ||| V2 < 2 ^ 10 := Nat.or_lt_two_pow (by omega) (by omega)
  have hres : ((V1 ||| V2 : Nat) : Int) + ((V3 / 59 : Nat) : Int) * 1024 = (((V1 ||| V2) + V3 / 59 * 1024 : Nat) : Int) := by omega
  repeat (first | with_reducible refine wrI ?_ | with_reducible refine wx0 ?_ | with_reducible refine wx1 ?_ | with_reducible refine wx2 ?_ | with_reducible refine wx3 ?_ | with_reducible refine wbd (by assumption) ?_ | (rw [← hM]) | (with_reducible refine wquo59 (by omega) ?_) | (rw [hres]) | with_reducible refine wshl (by omega) ?_ | with_reducible refine wor (by omega) (by omega) ?_ | with_reducible refine wadd (by omega) ?_ | with_reducible refine wmul (by omega) ?_ | with_reducible refine wresO (by assumption) ?_ | dsimp only)
  exact W.ret ⟨r, c, q, xs, pl, (V1 ||| V2) + V3 / 59 * 1024, rfl, k1.trans (ok2.keep.trans (ok3.keep.trans ok4.keep)), o4, hl, hp1, hp2, by omega⟩

theorem drawCarrierOk_W {p : PV} {ys : List Int} {h : PHeap} (N : Nat) (hN : 9 ≤ N) (ha : Arg h p ys) (hlf : 20 < lf) :
    ∃ (r c : Int) (q : PV) (xs : List Int) (pl : Int) (S : Nat) (h' : PHeap), CL g lf N fn_spec_DrawCarrierOk [p] h = some (.tup [.int .i64 r, .int .i64 c, q, .int .i64 pl, .int .i64 (S : Int)], h') ∧ Keep h.length h h' ∧ IntSl .i64 h' q xs ∧ xs.length ≤ 10 ∧ 1 ≤ pl ∧ pl ≤ 4 ∧ S < 4096 := by
  obtain ⟨n, rfl⟩ : ∃ n, N = n + 1 := ⟨N - 1, by omega⟩
  have : W (CL g lf (n + 1) fn_spec_DrawCarrierOk [p] h) fun v h' => ∃ (r c : Int) (q : PV) (xs : List Int) (pl : Int) (S : Nat), v = .tup [.int .i64 r, .int .i64 c, q, .int .i64 pl, .int .i64 (S : Int)] ∧ Keep h.length h h' ∧ IntSl .i64 h' q xs ∧ xs.length ≤ 10 ∧ 1 ≤ pl ∧ pl ≤ 4 ∧ S < 4096 := by
    obtain ⟨h1, e1, r1, k1⟩ := open_calls g lf n (by omega) ha
    rw [spec_DrawCarrierOk.call_eq]
    unfold spec_DrawCarrierOk.main
    simp only [env_C, env_extract]
    repeat (first | with_reducible refine wbd (by assumption) ?_ | dsimp only)
    refine wcall (carried_W g lf n (by omega) r1 (by omega) hlf) fun v h2 ⟨r, c, q, xs, pl, S, hv, k2, o2, hl, hp1, hp2, hS⟩ => ?_
    subst hv
    repeat (first | with_reducible refine wrI ?_ | with_reducible refine wx0 ?_ | with_reducible refine wx1 ?_ | with_reducible refine wx2 ?_ | with_reducible refine wx3 ?_ | with_reducible refine wx4 ?_ | with_reducible refine wresO (by assumption) ?_ | dsimp only)
    exact W.ret ⟨r, c, q, xs, pl, S, rfl, k1.trans k2, o2.int, hl, hp1, hp2, hS⟩
  obtain ⟨v, h', e, r, c, q, xs, pl, S, rfl, rest⟩ := this
  exact ⟨r, c, q, xs, pl, S, h', e, rest⟩

theorem drawThreatOk_W {p : PV} {ys : List Int} {h : PHeap} (N : Nat) (hN : 9 ≤ N) (ha : Arg h p ys) (hlf : 20 < lf) :
    ∃ (r c : Int) (q : PV) (xs : List Int) (pl : Int) (S : Nat) (h' : PHeap), CL g lf N fn_spec_DrawThreatOk [p] h = some (.tup [.int .i64 r, .int .i64 c, q, .int .i64 pl, .int .i64 (S : Int)], h') ∧ Keep h.length h h' ∧ IntSl .i64 h' q xs ∧ xs.length ≤ 10 ∧ 1 ≤ pl ∧ pl ≤ 4 ∧ S < 4096 := by
  obtain ⟨n, rfl⟩ : ∃ n, N = n + 1 := ⟨N - 1, by omega⟩
  have : W (CL g lf (n + 1) fn_spec_DrawThreatOk [p] h) fun v h' => ∃ (r c : Int) (q : PV) (xs : List Int) (pl : Int) (S : Nat), v = .tup [.int .i64 r, .int .i64 c, q, .int .i64 pl, .int .i64 (S : Int)] ∧ Keep h.length h h' ∧ IntSl .i64 h' q xs ∧ xs.length ≤ 10 ∧ 1 ≤ pl ∧ pl ≤ 4 ∧ S < 4096 := by
    obtain ⟨h1, e1, r1, k1⟩ := open_calls g lf n (by omega) ha
    rw [spec_DrawThreatOk.call_eq]
    unfold spec_DrawThreatOk.main
    simp only [env_C, env_extract]
    repeat (first | with_reducible refine wbd (by assumption) ?_ | dsimp only)
    refine wcall (carried_W g lf n (by omega) r1 (by omega) hlf) fun v h2 ⟨r, c, q, xs, pl, S, hv, k2, o2, hl, hp1, hp2, hS⟩ => ?_
    subst hv
    repeat (first | with_reducible refine wrI ?_ | with_reducible refine wx0 ?_ | with_reducible refine wx1 ?_ | with_reducible refine wx2 ?_ | with_reducible refine wx3 ?_ | with_reducible refine wx4 ?_ | with_reducible refine wresO (by assumption) ?_ | dsimp only)
    exact W.ret ⟨r, c, q, xs, pl, S, rfl, k1.trans k2, o2.int, hl, hp1, hp2, hS⟩
  obtain ⟨v, h', e, r, c, q, xs, pl, S, rfl, rest⟩ := this
  exact ⟨r, c, q, xs, pl, S, h', e, rest⟩

theorem drawMustCells_W {p : PV} {ys : List Int} {h : PHeap} (N : Nat) (hN : 8 ≤ N) (ha : Arg h p ys) (hlf : 20 < lf) :
    ∃ (r c : Int) (q : PV) (xs : List Int) (pl : Int) (h' : PHeap), CL g lf N fn_spec_DrawMustCells [p] h = some (.tup [.int .i64 r, .int .i64 c, q, .int .i64 pl], h') ∧ Keep h.length h h' ∧ IntSl .i64 h' q xs ∧ xs.length ≤ 10 ∧ 1 ≤ pl ∧ pl ≤ 4 ∧ xs.count 0 ≤ 4 := by
  obtain ⟨n, rfl⟩ : ∃ n, N = n + 1 := ⟨N - 1, by omega⟩
  have : W (CL g lf (n + 1) fn_spec_DrawMustCells [p] h) fun v h' => ∃ (r c : Int) (q : PV) (xs : List Int) (pl : Int), v = .tup [.int .i64 r, .int .i64 c, q, .int .i64 pl] ∧ Keep h.length h h' ∧ IntSl .i64 h' q xs ∧ xs.length ≤ 10 ∧ 1 ≤ pl ∧ pl ≤ 4 ∧ xs.count 0 ≤ 4 := by
    obtain ⟨h1, e1, r1, k1⟩ := open_calls g lf n (by omega) ha
    rw [spec_DrawMustCells.call_eq]
    unfold spec_DrawMustCells.main
    simp only [env_C, env_extract]
    repeat (first | with_reducible refine wbd (by assumption) ?_ | dsimp only)
    refine wcall (few2_W g lf n (by omega) 4 r1 (by omega) hlf) fun v h2 ⟨r, c, q, xs, pl, hv, k2, o2, hl, hp1, hp2, _, hc⟩ => ?_
    subst hv
    have hc' := hc (by decide)
    repeat (first | with_reducible refine wrI ?_ | with_reducible refine wx0 ?_ | with_reducible refine wx1 ?_ | with_reducible refine wx2 ?_ | with_reducible refine wx3 ?_ | with_reducible refine wresO (by assumption) ?_ | dsimp only)
    exact W.ret ⟨r, c, q, xs, pl, rfl, k1.trans k2, o2.int, hl, hp1, hp2, by omega⟩
  obtain ⟨v, h', e, r, c, q, xs, pl, rfl, rest⟩ := this
  exact ⟨r, c, q, xs, pl, h', e, rest⟩

theorem drawBridgesOf_W {p : PV} {ys : List Int} {h : PHeap} (N : Nat) (hN : 6 ≤ N) (ha : Arg h p ys) :
    ∃ (r c k : Int) (h' : PHeap), CL g lf N fn_spec_DrawBridgesOf [p] h = some (.tup [.int .i64 r, .int .i64 c, .int .i64 k], h') ∧ Keep h.length h h' ∧ -1 ≤ r ∧ r ≤ 5 ∧ -1 ≤ c ∧ c ≤ 5 ∧ -1000 ≤ k ∧ k ≤ 1000 := by
  obtain ⟨n, rfl⟩ : ∃ n, N = n + 1 := ⟨N - 1, by omega⟩
  obtain ⟨r, c, k, h1, e1, rest⟩ := drawNear_calls g lf n (by omega) ha
  have : W (CL g lf (n + 1) fn_spec_DrawBridgesOf [p] h) fun v h' => v = .tup [.int .i64 r, .int .i64 c, .int .i64 k] ∧ h' = h1 := by
    rw [spec_DrawBridgesOf.call_eq]
    unfold spec_DrawBridgesOf.main
    simp only [env_C, env_extract]
    repeat (first | with_reducible refine wrI ?_ | with_reducible refine wx0 ?_ | with_reducible refine wx1 ?_ | with_reducible refine wx2 ?_ | with_reducible refine wbd (by assumption) ?_ | dsimp only)
    exact W.ret ⟨rfl, rfl⟩
  obtain ⟨v, h', e, rfl, rfl⟩ := this
  exact ⟨r, c, k, _, e, rest⟩

end Go.Proofs.YtmhflbomploidaaDoor

/- Least sets of cells, cells that must be taken, and bridges. No program text. -/
set_option maxRecDepth 20000
namespace Go.Proofs.YtmhflbomploidaaDoor
open Go Go.Ip G

/-! ### every set of free cells is told by a number -/
theorem fillN_mem : ∀ {l : List Nat} {m j : Nat}, (fillN l m).testBit j = true → j ∈ l
  | [], m, j, h => by rw [fillN, Nat.zero_testBit] at h; cases h
  | c :: l, m, j, h => by
    rw [fillN, Nat.testBit_or, Bool.or_eq_true] at h
    rcases h with h | h
    · have hb := Nat.mod_two_eq_zero_or_one m
      rcases hb with e | e
      · rw [e, Nat.zero_shiftLeft, Nat.zero_testBit] at h; cases h
      · rw [e, one_bit, decide_eq_true_eq] at h; rw [h]; exact List.mem_cons_self ..
    · exact List.mem_cons_of_mem _ (fillN_mem h)
/-! ### the least one -/
def sizeN (S : Nat) : Nat := (cellsN S).length
section
variable {R C P : Nat} {xs : List Int} (hb : posB (R : Int) (C : Int) xs = true) (hP : P = 1 ∨ P = 2)
include hb
theorem free_sub {F : Nat} (hF : ∀ j, F.testBit j = true → j ∈ cellsN (setL xs 0)) : F < 2 ^ xs.length := by
  have hS := sides_pos hb
  have hlen : xs.length = R * C := hS.2.2.2.2.2.2.2.1
  refine Nat.lt_pow_two_of_testBit F fun i hi => ?_
  cases e : F.testBit i with
  | false => rfl
  | true =>
    have := set_in hS ((cellsN_mem (set_lt9 hS 0)).1 (hF i e))
    omega
include hP
end

/-! ### cells that must be taken -/
def mustF (ok : Nat → Bool) (l : List Nat) : Nat → Nat → Nat
  | 0, all => all
  | n + 1, all => bif ok (fillN l n) then mustF ok l n all &&& fillN l n else mustF ok l n all
theorem must_bit {ok : Nat → Bool} {l : List Nat} {all j : Nat} : ∀ {n : Nat}, (mustF ok l n all).testBit j = true ↔ all.testBit j = true ∧ ∀ m, m < n → ok (fillN l m) = true → (fillN l m).testBit j = true
  | 0 => by rw [mustF]; exact ⟨fun h => ⟨h, fun m hm => by omega⟩, fun h => h.1⟩
  | n + 1 => by
    rw [mustF]
    cases e : ok (fillN l n) with
    | true =>
      rw [cond_true, Nat.testBit_and, Bool.and_eq_true, must_bit (n := n)]
      constructor
      · rintro ⟨⟨h1, h2⟩, h3⟩
        refine ⟨h1, fun m hm ho => ?_⟩
        by_cases hmn : m = n
        · rw [hmn]; exact h3
        · exact h2 m (by omega) ho
      · rintro ⟨h1, h2⟩
        exact ⟨⟨h1, fun m hm ho => h2 m (by omega) ho⟩, h2 n (by omega) e⟩
    | false =>
      rw [cond_false, must_bit (n := n)]
      constructor
      · rintro ⟨h1, h2⟩
        refine ⟨h1, fun m hm ho => ?_⟩
        by_cases hmn : m = n
        · rw [hmn, e] at ho; cases ho
        · exact h2 m (by omega) ho
      · rintro ⟨h1, h2⟩
        exact ⟨h1, fun m hm ho => h2 m (by omega) ho⟩
def mustN (r c : Int) (xs : List Int) (P : Int) : Nat := mustF (fun S => threatL r c xs (3 - P) (S : Int)) (cellsN (setL xs 0)) (2 ^ (cellsN (setL xs 0)).length) (setL xs 0)
def mustL (r c : Int) (xs : List Int) (P : Int) : List Int := if (posB r c xs && playerB P && decide (xs.count 0 ≤ 6)) = true then listN (mustN r c xs P) else []
/-- Winning cells must be taken. -/
theorem must_wins {R C P : Nat} {xs : List Int} (hb : posB (R : Int) (C : Int) xs = true) (hP : P = 1 ∨ P = 2) {k : Nat} (hw : winsB (R : Int) (C : Int) xs (P : Int) k = true) : (mustN (R : Int) (C : Int) xs (P : Int)).testBit k = true := by
  have hO : 3 - P = 1 ∨ 3 - P = 2 := by omega
  have hk0 := (moveL_iff.1 (winsB_iff.1 hw).1).2.2.1
  unfold mustN
  rw [must_bit]
  refine ⟨setL_bit.2 hk0, fun m hm ho => ?_⟩
  have hlt := free_sub hb (F := fillN (cellsN (setL xs 0)) m) fun j hj => fillN_mem hj
  rw [show (3 : Int) - (P : Int) = ((3 - P : Nat) : Int) by omega] at ho
  exact wins_met hb hO hlt ho (by rw [show 3 - (3 - P) = P by omega]; exact hw)

end Go.Proofs.YtmhflbomploidaaDoor

/- Bridges. No program text. -/
set_option maxRecDepth 20000
namespace Go.Proofs.YtmhflbomploidaaDoor
open Go Go.Ip G

def nearM (R C k : Nat) : Nat := (masksN R C).getD k 0
def bridgeB (R C a k : Nat) : Bool := !decide (k = a) && decide (nearM R C a >>> k % 2 = 0) && decide (sizeN (nearM R C a &&& nearM R C k) = 2)
def bridgesN (R C a : Nat) : List Int := ((List.range (R * C)).filter (bridgeB R C a)).map fun k : Nat => (k : Int)
def bridgesL (r c k : Int) : List Int := if cellB r c k = true then bridgesN r.toNat c.toNat k.toNat else []

def bothN (near : List Int) (other : List Int) : Nat := other.countP fun e => decide (e ∈ near)

def bridgeOk (R C A B : Nat) : Bool :=
  !bridgeB R C A B || (bridgeB R C B A && decide (bothN (nearN R C A) (nearN R C B) = 2) && !decide ((B : Int) ∈ nearN R C A))

theorem bridge_all : ((List.range 5).all fun R => (List.range 5).all fun C => (List.range 9).all fun A => (List.range 9).all fun B => !(decide (1 ≤ R ∧ 1 ≤ C ∧ R * C ≤ 9 ∧ A < R * C ∧ B < R * C)) || bridgeOk R C A B) = true := by kernel_rfl

theorem bridge_ok {R C A B : Nat} (h1 : 1 ≤ R) (h2 : R ≤ 4) (h3 : 1 ≤ C) (h4 : C ≤ 4) (h9 : R * C ≤ 9) (hA : A < R * C) (hB : B < R * C) (h : bridgeB R C A B = true) :
    bridgeB R C B A = true ∧ bothN (nearN R C A) (nearN R C B) = 2 ∧ ¬ (B : Int) ∈ nearN R C A := by
  have := List.all_eq_true.1 bridge_all R (by rw [List.mem_range]; omega)
  have := List.all_eq_true.1 this C (by rw [List.mem_range]; omega)
  have := List.all_eq_true.1 this A (by rw [List.mem_range]; omega)
  have := List.all_eq_true.1 this B (by rw [List.mem_range]; omega)
  rw [decide_eq_true ⟨h1, h3, h9, hA, hB⟩, Bool.not_true, Bool.false_or] at this
  unfold bridgeOk at this
  rw [h, Bool.not_true, Bool.false_or, Bool.and_eq_true, Bool.and_eq_true] at this
  obtain ⟨⟨x, y⟩, z⟩ := this
  refine ⟨x, of_decide_eq_true y, fun hz => ?_⟩
  rw [decide_eq_true hz] at z; cases z

theorem bridges_mem {R C A : Nat} {e : Int} : e ∈ bridgesN R C A ↔ ∃ B : Nat, e = (B : Int) ∧ B < R * C ∧ bridgeB R C A B = true := by
  unfold bridgesN
  rw [List.mem_map]
  constructor
  · rintro ⟨B, hB, rfl⟩
    rw [List.mem_filter, List.mem_range] at hB
    exact ⟨B, rfl, hB.1, hB.2⟩
  · rintro ⟨B, rfl, hB, hb⟩
    exact ⟨B, List.mem_filter.2 ⟨List.mem_range.2 hB, hb⟩, rfl⟩

theorem bridges_length {R C A : Nat} (h9 : R * C ≤ 9) : (bridgesN R C A).length ≤ 9 := by
  unfold bridgesN
  rw [List.length_map]
  have := List.length_filter_le (bridgeB R C A) (List.range (R * C))
  rw [List.length_range] at this
  omega

/-! ### the count that the law makes -/
theorem both_succ {near other : List Int} {j : Nat} (hj : j < other.length) : bothN near (other.drop j) = (if other[j] ∈ near then 1 else 0) + bothN near (other.drop (j + 1)) := by
  rw [List.drop_eq_getElem_cons hj]
  unfold bothN
  rw [List.countP_cons]
  by_cases h : other[j] ∈ near
  · rw [if_pos h, if_pos (decide_eq_true h), Nat.add_comm]
  · rw [if_neg h, if_neg (by rw [decide_eq_false h]; exact Bool.false_ne_true), Nat.add_comm]

/-! ### the list that grows -/
def brFrom (R C A k m : Nat) : List Int := ((List.range' k m).filter (bridgeB R C A)).map fun k : Nat => (k : Int)
theorem brFrom_all (R C A : Nat) : brFrom R C A 0 (R * C) = bridgesN R C A := by unfold brFrom bridgesN; rw [List.range_eq_range']
theorem brFrom_zero (R C A k : Nat) : brFrom R C A k 0 = [] := rfl
theorem brFrom_succ (R C A k m : Nat) : brFrom R C A k (m + 1) = if bridgeB R C A k = true then (k : Int) :: brFrom R C A (k + 1) m else brFrom R C A (k + 1) m := by
  unfold brFrom
  rw [List.range'_succ, List.filter_cons]
  by_cases h : bridgeB R C A k = true
  · rw [if_pos h, if_pos h]; rfl
  · rw [if_neg h, if_neg h]

end Go.Proofs.YtmhflbomploidaaDoor

/- The model's chapter 6: what CarrierOk, ThreatOk, LeastCarrier, LeastThreat, BridgesOf and MustCells of it compute. -/
set_option maxRecDepth 20000
namespace Go.Proofs.YtmhflbomploidaaDoor
open Go Go.Ip G

/-! ### lists, while they are written -/
def givF (xs : List Int) (P : Int) (S k : Nat) : List Int := (List.range xs.length).map fun j => if j < k then givenAt xs P S j else xs.getD j 0
theorem givF_length (xs : List Int) (P : Int) (S k : Nat) : (givF xs P S k).length = xs.length := by simp [givF]
theorem givF_get {xs : List Int} {P : Int} {S k j : Nat} (hj : j < (givF xs P S k).length) : (givF xs P S k)[j] = if j < k then givenAt xs P S j else xs.getD j 0 := by
  simp only [givF, List.getElem_map, List.getElem_range]
theorem givF_zero (xs : List Int) (P : Int) (S : Nat) : givF xs P S 0 = xs := by
  refine List.ext_getElem (givF_length ..) fun j h1 h2 => ?_
  rw [givF_get, if_neg (by omega), List.getD_eq_getElem?_getD, List.getElem?_eq_getElem h2]; rfl
theorem givF_all (xs : List Int) (P : Int) (S : Nat) : givF xs P S xs.length = givenL xs P S := by
  unfold givF givenL
  refine List.map_congr_left fun j hj => ?_
  rw [if_pos (List.mem_range.1 hj)]
theorem givF_at {xs : List Int} {P : Int} {S k : Nat} (hk : k < (givF xs P S k).length) (hx : k < xs.length) : (givF xs P S k)[k] = xs[k] := by
  rw [givF_get, if_neg (by omega), List.getD_eq_getElem?_getD, List.getElem?_eq_getElem hx]; rfl
theorem givF_set {xs : List Int} {P v : Int} {S k : Nat} (hv : givenAt xs P S k = v) : (givF xs P S k).set k v = givF xs P S (k + 1) := by
  refine List.ext_getElem (by rw [List.length_set, givF_length, givF_length]) fun j h1 h2 => ?_
  rw [List.getElem_set]
  by_cases e : k = j
  · subst e
    rw [if_pos rfl, givF_get, if_pos (by omega), hv]
  · rw [if_neg e, givF_get, givF_get]
    by_cases l : j < k
    · rw [if_pos l, if_pos (by omega)]
    · rw [if_neg l, if_neg (by omega)]
theorem givF_same {xs : List Int} {P : Int} {S k : Nat} (hv : givenAt xs P S k = xs.getD k 0) : givF xs P S k = givF xs P S (k + 1) := by
  unfold givF
  refine List.map_congr_left fun j hj => ?_
  by_cases e : j = k
  · rw [e, if_neg (by omega), if_pos (by omega), hv]
  · by_cases l : j < k
    · rw [if_pos l, if_pos (by omega)]
    · rw [if_neg l, if_neg (by omega)]

theorem wk1 {Q : PV → PHeap → Prop} {b u : Bool} {x y : Res} (hb : b = u) (hx : W x Q) : W ((wantV (.bool b) u).bind fun v => bif v then x else y) Q := by
  subst hb; simpa using hx
theorem wk0 {Q : PV → PHeap → Prop} {b u : Bool} {x y : Res} (hb : b = !u) (hy : W y Q) : W ((wantV (.bool b) u).bind fun v => bif v then x else y) Q := by
  subst hb; cases u <;> simpa using hy
theorem weqD {Q : PV → PHeap → Prop} {a b : Int} {k : IntKind} {t : Nat} {f : PV → Res} (hf : W (f (.bool (decide (a = b)))) Q) : W ((binP Tryd.prog .eql t (.int k a) (.int k b)).bind f) Q := wbd (by rw [bin_eql]; rfl) hf

variable (g : Nat → PV) (lf n : Nat)

/-! ### what is left to a player -/
theorem l6Given_calls {xs : List Int} {p : PV} {h : PHeap} {P S : Nat} (hP : P = 1 ∨ P = 2) (hS : S < 2 ^ 9) (h1 : 1 ≤ xs.length) (h9 : xs.length ≤ 9) (hp : IntSl .i64 h p xs) (hlf : 1000 < lf) (N : Nat) (hN : 2 ≤ N) :
    ∃ q h', CL g lf N fn_spec_l6Given [p, .int .i64 (P : Int), .int .i64 (S : Int)] h = some (q, h') ∧ OwnSl h.length h' q (givenL xs (P : Int) S) ∧ Keep h.length h h' := by
  obtain ⟨n, rfl⟩ : ∃ n, N = n + 1 := ⟨N - 1, by omega⟩
  suffices this : W (CL g lf (n + 1) fn_spec_l6Given [p, .int .i64 (P : Int), .int .i64 (S : Int)] h) fun q h' => OwnSl h.length h' q (givenL xs (P : Int) S) ∧ Keep h.length h h' by
    obtain ⟨q, h', e, o, k⟩ := this
    exact ⟨q, h', e, o, k⟩
  obtain ⟨v, pn, h2, e2, e3, o2, k2⟩ := copy_all hp (by omega) (by omega)
  rw [spec_l6Given.call_eq]
  unfold spec_l6Given.main
  simp only [env_lf, env_buildSlice, env_append]
  repeat (first | with_reducible refine wbd (by assumption) ?_ | dsimp only)
  refine loopW (fun u s => ∃ (k : Nat) (h3 : PHeap), s = spec_l6Given.st0 (.int .i64 (P : Int)) (.int .i64 (S : Int)) pn (.int .i64 (k : Int)) h3 ∧ k + u = xs.length ∧ OwnSl h.length h3 pn (givF xs (P : Int) S k) ∧ Keep h.length h h3) ?_ lf xs.length _ (by omega) ⟨0, h2, rfl, by omega, by rw [givF_zero]; exact o2, k2⟩
  rintro n1 u s ⟨k, h3, rfl, hku, o3, k3⟩ next
  have hgl := givF_length xs (P : Int) S k
  have hlen := o3.int.len'
  rw [hgl] at hlen
  rw [spec_l6Given.body0_eq]
  unfold spec_l6Given.body0
  simp only [env_C, env_pick, env_load, env_store, env_bin, env_indexAddr, env_len]
  cases u with
  | zero =>
    have : k = xs.length := by omega
    subst this
    rw [givF_all] at o3
    repeat (first | with_reducible refine wF ?_ | with_reducible refine wbd (by assumption) ?_ | with_reducible refine wlssF (by omega) ?_ | with_reducible refine wresO (by assumption) ?_ | rw [kLoop_exit] | rw [spec_l6Given.after0_se0_1_2_7_8_15])
    exact W.ret ⟨o3, k3⟩
  | succ u =>
    have hk : k < xs.length := by omega
    have hkg : k < (givF xs (P : Int) S k).length := by omega
    have hat := givF_at hkg hk
    have hgd : xs.getD k 0 = xs[k] := by rw [List.getD_eq_getElem?_getD, List.getElem?_eq_getElem hk]; rfl
    have hga : givenAt xs (P : Int) S k = if xs[k] = 0 ∧ S.testBit k = false then 3 - (P : Int) else xs[k] := by unfold givenAt; rw [hgd]
    obtain ⟨b, hbt⟩ : ∃ b, b = S >>> k % 2 := ⟨_, rfl⟩
    have hbit : S.testBit k = decide (b = 1) := by rw [hbt, Nat.testBit_eq_decide_div_mod_eq, Nat.shiftRight_eq_div_pow]
    have hb1 : b ≤ 1 := by omega
    have eo := fun hh => other_W g lf n (by omega) hh hP
    have hP3 : ((3 - P : Nat) : Int) = 3 - (P : Int) := by omega
    repeat (first | with_reducible refine wT ?_ | with_reducible refine wbd (by assumption) ?_ | (with_reducible refine wat o3.int hkg fun a hl => ?_) | with_reducible refine wlssT (by omega) ?_)
    rw [hat] at *
    refine weql (fun e => ?_) (fun e => ?_)
    · by_cases hz : b = 0
      · have hv : givenAt xs (P : Int) S k = ((3 - P : Nat) : Int) := by rw [hga, if_pos ⟨e, by rw [hbit, hz]; rfl⟩, hP3]
        repeat (first | with_reducible refine wT ?_ | with_reducible refine wg1 rfl ?_ | with_reducible refine wpT ?_ | with_reducible refine wpv ?_ | with_reducible refine wsm ?_ | (rw [← hbt]) | (with_reducible refine wbd (eo _) ?_) | (with_reducible refine wst o3 hkg fun h5 o5 k5 l5 a5 e5 => ?_) | with_reducible refine wadd1 (by omega) ?_ | with_reducible refine wrem2 ?_ | with_reducible refine wshr (by omega) ?_ | with_reducible refine weqlT (by omega) ?_)
        exact next _ _ (Nat.lt_succ_self u) ⟨k + 1, h5, rfl, by omega, by rw [← givF_set hv]; exact o5, k3.trans k5⟩
      · have hv : givenAt xs (P : Int) S k = xs.getD k 0 := by
          rw [hga, hgd, if_neg]
          rintro ⟨_, h2⟩
          rw [hbit, decide_eq_true (by omega)] at h2
          cases h2
        repeat (first | with_reducible refine wF ?_ | with_reducible refine wg1 rfl ?_ | with_reducible refine wpT ?_ | with_reducible refine wpv ?_ | with_reducible refine wsm ?_ | (rw [← hbt]) | with_reducible refine wadd1 (by omega) ?_ | with_reducible refine wrem2 ?_ | with_reducible refine wshr (by omega) ?_ | with_reducible refine weqlF (by omega) ?_ | dsimp only)
        exact next _ _ (Nat.lt_succ_self u) ⟨k + 1, h3, rfl, by omega, by rw [← givF_same hv]; exact o3, k3⟩
    · have hv : givenAt xs (P : Int) S k = xs.getD k 0 := by
        rw [hga, hgd, if_neg fun hh => e hh.1]
      repeat (first | with_reducible refine wF ?_ | with_reducible refine wg0 rfl ?_ | with_reducible refine wpF ?_ | with_reducible refine wsm ?_ | with_reducible refine wadd1 (by omega) ?_ | dsimp only)
      exact next _ _ (Nat.lt_succ_self u) ⟨k + 1, h3, rfl, by omega, by rw [← givF_same hv]; exact o3, k3⟩

/-! ### sets that may carry -/
theorem l6Ok_calls {xs : List Int} {p : PV} {h : PHeap} (N : Nat) (hN : 4 ≤ N) (r c pl S : Int) (hp : IntSl .i64 h p xs) (hl : xs.length ≤ 2 ^ 35) (hf : xs.length < lf) :
    CL g lf N fn_spec_l6Ok [.int .i64 r, .int .i64 c, p, .int .i64 pl, .int .i64 S] h = some (.bool (okL r c xs pl S), h) := by
  obtain ⟨n, rfl⟩ : ∃ n, N = n + 1 := ⟨N - 1, by omega⟩
  have hpos := specPositionOk_N g lf n (by omega) r c hp (by omega) hf
  have hin1 : CL g lf n fn_spec_l1In [.int .i64 pl, .int .i64 1, .int .i64 2] h = some (.bool (playerB pl), h) := l1In_N g lf n (by omega) h pl 1 2
  have : W (CL g lf (n + 1) fn_spec_l6Ok [.int .i64 r, .int .i64 c, p, .int .i64 pl, .int .i64 S] h) fun v h' => v = .bool (okL r c xs pl S) ∧ h' = h := by
    unfold okL
    rw [spec_l6Ok.call_eq]
    unfold spec_l6Ok.main
    simp only [env_C, env_pick, env_bin, env_len]
    cases hb : posB r c xs with
    | false =>
      rw [hb] at hpos
      repeat (first | with_reducible refine wg0 rfl ?_ | with_reducible refine wpF ?_ | with_reducible refine wsm ?_ | with_reducible refine wrB ?_ | with_reducible refine wbd (by assumption) ?_ | dsimp only)
      exact W.ret ⟨rfl, rfl⟩
    | true =>
      rw [hb] at hpos
      cases hpl : playerB pl with
      | false =>
        rw [hpl] at hin1
        repeat (first | with_reducible refine wg1 rfl ?_ | with_reducible refine wg0 rfl ?_ | with_reducible refine wpT ?_ | with_reducible refine wpF ?_ | with_reducible refine wsm ?_ | with_reducible refine wrB ?_ | with_reducible refine wbd (by assumption) ?_ | dsimp only)
        exact W.ret ⟨rfl, rfl⟩
      | true =>
        rw [hpl] at hin1
        obtain ⟨R, C, hS⟩ := sides_of hb
        obtain ⟨rfl, rfl, _, _, _, _, h9, hlen, _⟩ := id hS
        have h1s : 1 <<< xs.length = 2 ^ xs.length := Nat.one_shiftLeft _
        have hpow : 2 ^ xs.length ≤ 512 := Nat.pow_le_pow_right (n := 2) (by decide) (by omega : xs.length ≤ 9)
        have hpow1 : 1 ≤ 2 ^ xs.length := Nat.one_le_two_pow
        have hin2 : CL g lf n fn_spec_l1In [.int .i64 S, .int .i64 0, .int .i64 ((1 <<< xs.length - 1 : Nat) : Int)] h = some (.bool (decide (0 ≤ S ∧ S < ((2 ^ xs.length : Nat) : Int))), h) := by
          rw [l1In_N g lf n (by omega) h S 0 _, h1s]
          have : decide (0 ≤ S ∧ S ≤ ((2 ^ xs.length - 1 : Nat) : Int)) = decide (0 ≤ S ∧ S < ((2 ^ xs.length : Nat) : Int)) := decide_eq_decide.2 (by omega)
          rw [this]
        repeat (first | with_reducible refine wg1 rfl ?_ | with_reducible refine wpT ?_ | with_reducible refine wpv ?_ | with_reducible refine wsm ?_ | with_reducible refine wrB ?_ | with_reducible refine wbd (by assumption) ?_ | with_reducible refine wlen (by assumption) ?_ | with_reducible refine wsub1 (by omega) (by omega) ?_ | with_reducible refine wshl (by omega) ?_ | dsimp only)
        exact W.ret ⟨rfl, rfl⟩
  obtain ⟨_, _, e, rfl, rfl⟩ := this
  exact e

theorem okL_parts {r c : Int} {xs : List Int} {pl S : Int} (h : okL r c xs pl S = true) : posB r c xs = true ∧ playerB pl = true ∧ ∃ F : Nat, S = (F : Int) ∧ F < 2 ^ xs.length := by
  unfold okL at h
  rw [Bool.and_eq_true, Bool.and_eq_true, decide_eq_true_iff] at h
  obtain ⟨⟨h1, h2⟩, h3⟩ := h
  exact ⟨h1, h2, S.toNat, by omega, by omega⟩

theorem specCarrierOk_calls {xs : List Int} {p : PV} {h : PHeap} (N : Nat) (hN : 17 ≤ N) (r c pl S : Int) (hp : IntSl .i64 h p xs) (hl : xs.length ≤ 2 ^ 35) (hf : xs.length < lf) (hlf : 1000 < lf) :
    ∃ h', CL g lf N fn_spec_CarrierOk [.int .i64 r, .int .i64 c, p, .int .i64 pl, .int .i64 S] h = some (.bool (carrierL r c xs pl S), h') ∧ Keep h.length h h' := by
  obtain ⟨n, rfl⟩ : ∃ n, N = n + 1 := ⟨N - 1, by omega⟩
  have hok := l6Ok_calls g lf n (by omega) r c pl S hp hl hf
  have : W (CL g lf (n + 1) fn_spec_CarrierOk [.int .i64 r, .int .i64 c, p, .int .i64 pl, .int .i64 S] h) fun v h' => v = .bool (carrierL r c xs pl S) ∧ Keep h.length h h' := by
    unfold carrierL
    rw [spec_CarrierOk.call_eq]
    unfold spec_CarrierOk.main
    simp only [env_C, env_bin, env_un]
    cases ho : okL r c xs pl S with
    | false =>
      rw [ho] at hok
      repeat (first | with_reducible refine wT ?_ | with_reducible refine wnF ?_ | with_reducible refine wrB ?_ | with_reducible refine wbd (by assumption) ?_ | dsimp only)
      exact W.ret ⟨rfl, Keep.refl _ _⟩
    | true =>
      rw [ho] at hok
      obtain ⟨hb, hpl, F, rfl, hF⟩ := okL_parts ho
      obtain ⟨R, C, hS⟩ := sides_of hb
      obtain ⟨P, rfl, hP⟩ := player_of hpl
      obtain ⟨rfl, rfl, b1, _, b3, _, h9, hlen, _⟩ := id hS
      have hpos1 : 1 ≤ xs.length := by rw [hlen]; exact Nat.mul_pos b1 b3
      have hF9 : F < 2 ^ 9 := Nat.lt_of_lt_of_le hF (Nat.pow_le_pow_right (by decide) (by omega))
      have hP3 : 3 - P = 1 ∨ 3 - P = 2 := by omega
      have hg := given_pos hP F hb
      have hgS : Sides (R : Int) (C : Int) R C (givenL xs (P : Int) F) := sides_pos hg
      obtain ⟨q, h1, e1, o1, k1⟩ := l6Given_calls g lf hP hF9 hpos1 (by omega) hp hlf n (by omega)
      have e2 := fun hh => other_W g lf n (by omega) hh hP
      obtain ⟨h2, e3, k2⟩ := winner_W g lf hgS hP3 o1.int hlf n (by omega)
      have hw := winL_eq hg hP3
      have hcast : ((3 - P : Nat) : Int) = 3 - (P : Int) := by omega
      rw [hcast] at hw
      have hkk := k1.trans (k2.mono k1.1)
      rw [← hw] at e3
      rw [Bool.true_and, Int.toNat_natCast]
      repeat (first | with_reducible refine wF ?_ | with_reducible refine wnT ?_ | with_reducible refine wrB ?_ | with_reducible refine wbd (by assumption) ?_ | (with_reducible refine wbd (e2 _) ?_) | (with_reducible refine weqD ?_) | dsimp only)
      exact W.ret ⟨rfl, hkk⟩
  obtain ⟨_, h', e, rfl, k⟩ := this
  exact ⟨h', e, k⟩

theorem specThreatOk_calls {xs : List Int} {p : PV} {h : PHeap} (N : Nat) (hN : 17 ≤ N) (r c pl S : Int) (hp : IntSl .i64 h p xs) (hl : xs.length ≤ 2 ^ 35) (hf : xs.length < lf) (hlf : 1000 < lf) :
    ∃ h', CL g lf N fn_spec_ThreatOk [.int .i64 r, .int .i64 c, p, .int .i64 pl, .int .i64 S] h = some (.bool (threatL r c xs pl S), h') ∧ Keep h.length h h' := by
  obtain ⟨n, rfl⟩ : ∃ n, N = n + 1 := ⟨N - 1, by omega⟩
  have hok := l6Ok_calls g lf n (by omega) r c pl S hp hl hf
  have : W (CL g lf (n + 1) fn_spec_ThreatOk [.int .i64 r, .int .i64 c, p, .int .i64 pl, .int .i64 S] h) fun v h' => v = .bool (threatL r c xs pl S) ∧ Keep h.length h h' := by
    unfold threatL
    rw [spec_ThreatOk.call_eq]
    unfold spec_ThreatOk.main
    simp only [env_C, env_bin, env_un]
    cases ho : okL r c xs pl S with
    | false =>
      rw [ho] at hok
      repeat (first | with_reducible refine wT ?_ | with_reducible refine wnF ?_ | with_reducible refine wrB ?_ | with_reducible refine wbd (by assumption) ?_ | dsimp only)
      exact W.ret ⟨rfl, Keep.refl _ _⟩
    | true =>
      rw [ho] at hok
      obtain ⟨hb, hpl, F, rfl, hF⟩ := okL_parts ho
      obtain ⟨R, C, hS⟩ := sides_of hb
      obtain ⟨P, rfl, hP⟩ := player_of hpl
      obtain ⟨rfl, rfl, b1, _, b3, _, h9, hlen, _⟩ := id hS
      have hpos1 : 1 ≤ xs.length := by rw [hlen]; exact Nat.mul_pos b1 b3
      have hF9 : F < 2 ^ 9 := Nat.lt_of_lt_of_le hF (Nat.pow_le_pow_right (by decide) (by omega))
      have hg := given_pos hP F hb
      have hgS : Sides (R : Int) (C : Int) R C (givenL xs (P : Int) F) := sides_pos hg
      obtain ⟨q, h1, e1, o1, k1⟩ := l6Given_calls g lf hP hF9 hpos1 (by omega) hp hlf n (by omega)
      obtain ⟨h2, e3, k2⟩ := winner_W g lf hgS hP o1.int hlf n (by omega)
      have hw := winL_eq hg hP
      have hkk := k1.trans (k2.mono k1.1)
      rw [← hw] at e3
      rw [Bool.true_and, Int.toNat_natCast]
      repeat (first | with_reducible refine wF ?_ | with_reducible refine wnT ?_ | with_reducible refine wrB ?_ | with_reducible refine wbd (by assumption) ?_ | (with_reducible refine weqD ?_) | dsimp only)
      exact W.ret ⟨rfl, hkk⟩
  obtain ⟨_, h', e, rfl, k⟩ := this
  exact ⟨h', e, k⟩

theorem l6Size_calls {S : Nat} (hS : S < 2 ^ 9) (N : Nat) (hN : 2 ≤ N) (hlf : 1000 < lf) (h : PHeap) :
    ∃ h', CL g lf N fn_spec_l6Size [.int .i64 (S : Int)] h = some (.int .i64 ((sizeN S : Nat) : Int), h') ∧ Keep h.length h h' := by
  obtain ⟨n, rfl⟩ : ∃ n, N = n + 1 := ⟨N - 1, by omega⟩
  obtain ⟨q, h1, e1, o1, k1⟩ := l2List_calls g lf hS n (by omega) (by omega) (h := h)
  rw [listN_cells] at o1
  have hlen := o1.int.len'
  rw [List.length_map] at hlen
  have : W (CL g lf (n + 1) fn_spec_l6Size [.int .i64 (S : Int)] h) fun v h' => v = .int .i64 ((sizeN S : Nat) : Int) ∧ Keep h.length h h' := by
    rw [spec_l6Size.call_eq]
    unfold spec_l6Size.main
    simp only [env_C, env_len]
    repeat (first | with_reducible refine wrI ?_ | with_reducible refine wbd (by assumption) ?_ | dsimp only)
    exact W.ret ⟨rfl, k1⟩
  obtain ⟨_, h', e, rfl, k⟩ := this
  exact ⟨h', e, k⟩

/-! ### least sets -/
theorem okL_zero {r c : Int} {xs : List Int} {pl : Int} : okL r c xs pl 0 = (posB r c xs && playerB pl) := by
  unfold okL
  have : (1 : Nat) ≤ 2 ^ xs.length := Nat.one_le_two_pow
  rw [decide_eq_true (by omega : (0 : Int) ≤ 0 ∧ (0 : Int) < ((2 ^ xs.length : Nat) : Int)), Bool.and_true]

/-! ### bridges -/
theorem nearM_lt {R C : Nat} (hB : BoardOf R C) (k : Nat) : nearM R C k < 2 ^ 9 := by
  unfold nearM
  by_cases hk : k < (masksN R C).length
  · rw [List.getD_eq_getElem?_getD, List.getElem?_eq_getElem hk]
    exact masksN_lt hB _ (List.getElem_mem hk)
  · rw [List.getD_eq_getElem?_getD, List.getElem?_eq_none (by omega)]; decide

theorem specBridgesOf_calls (N : Nat) (hN : 5 ≤ N) (hlf : 1000 < lf) (h : PHeap) (r c k : Int) :
    ∃ q h', CL g lf N fn_spec_BridgesOf [.int .i64 r, .int .i64 c, .int .i64 k] h = some (q, h') ∧ OwnSl h.length h' q (bridgesL r c k) ∧ Keep h.length h h' := by
  obtain ⟨n, rfl⟩ : ∃ n, N = n + 1 := ⟨N - 1, by omega⟩
  suffices this : W (CL g lf (n + 1) fn_spec_BridgesOf [.int .i64 r, .int .i64 c, .int .i64 k] h) fun q h' => OwnSl h.length h' q (bridgesL r c k) ∧ Keep h.length h h' by
    obtain ⟨q, h', e, o, k⟩ := this
    exact ⟨q, h', e, o, k⟩
  unfold bridgesL cellB
  rw [spec_BridgesOf.call_eq]
  unfold spec_BridgesOf.main
  simp only [env_C, env_lf, env_pick, env_buildSlice, env_bin, env_un]
  refine wempty fun q h1 o1 k1 => ?_
  have hbo := boardOk_spec g lf n (by omega) h1 r c
  cases hb : boardB r c with
  | false =>
    rw [hb] at hbo
    repeat (first | with_reducible refine wT ?_ | with_reducible refine wg0 rfl ?_ | with_reducible refine wpT ?_ | with_reducible refine wnF ?_ | with_reducible refine wsm ?_ | with_reducible refine wbd (by assumption) ?_ | with_reducible refine wresO (by assumption) ?_ | dsimp only)
    exact W.ret ⟨o1, k1⟩
  | true =>
    rw [hb] at hbo
    obtain ⟨R, C, rfl, rfl, hB⟩ := boardB_of hb
    obtain ⟨b1, b2, b3, b4, b9⟩ := id hB
    have hRC1 : 1 ≤ R * C := Nat.mul_pos b1 b3
    have hrc : (R : Int) * (C : Int) = ((R * C : Nat) : Int) := by rw [Int.natCast_mul]
    rw [hrc]
    have hin : CL g lf n fn_spec_l1In [.int .i64 k, .int .i64 0, .int .i64 ((R * C - 1 : Nat) : Int)] h1 = some (.bool (decide (0 ≤ k ∧ k < ((R * C : Nat) : Int))), h1) := by
      rw [l1In_N g lf n (by omega) h1 k 0 _]
      have : decide (0 ≤ k ∧ k ≤ ((R * C - 1 : Nat) : Int)) = decide (0 ≤ k ∧ k < ((R * C : Nat) : Int)) := decide_eq_decide.2 (by omega)
      rw [this]
    cases hk : decide (0 ≤ k ∧ k < ((R * C : Nat) : Int)) with
    | false =>
      rw [hk] at hin
      repeat (first | with_reducible refine wT ?_ | with_reducible refine wg1 rfl ?_ | with_reducible refine wpF ?_ | with_reducible refine wnT ?_ | with_reducible refine wnF ?_ | with_reducible refine wpv ?_ | with_reducible refine wsm ?_ | with_reducible refine wbd (by assumption) ?_ | with_reducible refine wsub1 (by omega) (by omega) ?_ | with_reducible refine wmulN (by omega) ?_ | with_reducible refine wresO (by assumption) ?_ | dsimp only)
      exact W.ret ⟨o1, k1⟩
    | true =>
      rw [hk] at hin
      have hkb := of_decide_eq_true hk
      obtain ⟨A, rfl⟩ := Int.eq_ofNat_of_zero_le hkb.1
      have hA : A < R * C := by omega
      have hml : (ints (masksN R C)).length = R * C := by rw [ints_length, masksN_length]
      obtain ⟨pm, h2, e2, o2, k2⟩ := l2Masks_calls g lf hB n (by omega) (by omega) (h := h1)
      rw [Bool.true_and, if_pos rfl, Int.toNat_natCast, Int.toNat_natCast, Int.toNat_natCast, ← brFrom_all]
      repeat (first | with_reducible refine wF ?_ | with_reducible refine wg1 rfl ?_ | with_reducible refine wpF ?_ | with_reducible refine wnT ?_ | with_reducible refine wpv ?_ | with_reducible refine wsm ?_ | with_reducible refine wbd (by assumption) ?_ | with_reducible refine wsub1 (by omega) (by omega) ?_ | with_reducible refine wmulN (by omega) ?_ | dsimp only)
      refine loopW (fun u s => ∃ (k : Nat) (ys : List Int) (q : PV) (h3 : PHeap), s = spec_BridgesOf.st0 (.int .i64 (A : Int)) q pm (.int .i64 (k : Int)) h3 ∧ k + u = R * C ∧ ys.length ≤ k ∧ ys ++ brFrom R C A k u = brFrom R C A 0 (R * C) ∧
        Apart h.length h1.length h2.length h3 q ys ∧ OwnB h1.length h2.length h3 pm (ints (masksN R C)) ∧ h2.length ≤ h3.length ∧ Keep h.length h h3) ?_ lf (R * C) _ (by omega) ⟨0, [], q, h2, rfl, by omega, Nat.le_refl _, rfl, ⟨h.length, h1.length, o1.b.keep k2, Nat.le_refl _, .inl (Nat.le_refl _), k2.1⟩, o2.b, Nat.le_refl _, k1.trans (k2.mono k1.1)⟩
      rintro n1 u s ⟨k, ys, q, h3, rfl, hku, hy, hL, oq, om, l3, k3⟩ next
      have hlm := om.int.len'
      rw [hml] at hlm
      have hl1 := k1.1
      have hl2 := k2.1
      rw [spec_BridgesOf.body0_eq]
      unfold spec_BridgesOf.body0
      simp only [env_C, env_pick, env_buildSlice, env_load, env_bin, env_indexAddr, env_len, env_append]
      cases u with
      | zero =>
        rw [brFrom_zero, List.append_nil] at hL
        repeat (first | with_reducible refine wF ?_ | with_reducible refine wbd (by assumption) ?_ | with_reducible refine wlssF (by omega) ?_ | rw [kLoop_exit] | rw [spec_BridgesOf.after0_se0_2_7_8_9_31])
        refine wresO oq.sl ?_
        exact W.ret ⟨hL ▸ oq.sl, k3⟩
      | succ u =>
        have hk : k < (ints (masksN R C)).length := by rw [hml]; omega
        have hAl : A < (ints (masksN R C)).length := by rw [hml]; omega
        have hgk : (ints (masksN R C))[k] = ((nearM R C k : Nat) : Int) := ints_get (by rw [masksN_length]; omega)
        have hgA : (ints (masksN R C))[A] = ((nearM R C A : Nat) : Int) := ints_get (by rw [masksN_length]; omega)
        have hM := nearM_lt hB A
        have hM2 := nearM_lt hB k
        obtain ⟨MA, hMA⟩ : ∃ x, x = nearM R C A := ⟨_, rfl⟩
        obtain ⟨MK, hMK⟩ : ∃ x, x = nearM R C k := ⟨_, rfl⟩
        have hbr : bridgeB R C A k = (!decide (k = A) && decide (MA >>> k % 2 = 0) && decide (sizeN (MA &&& MK) = 2)) := by rw [hMA, hMK]; rfl
        rw [← hMA] at hgA hM
        rw [← hMK] at hgk hM2
        have hand : MA &&& MK < 2 ^ 9 := Nat.lt_of_le_of_lt Nat.and_le_left hM
        rw [brFrom_succ] at hL
        by_cases hkA : k = A
        · rw [hbr, decide_eq_true hkA, Bool.not_true, Bool.false_and, Bool.false_and, if_neg (by decide)] at hL
          repeat (first | with_reducible refine wT ?_ | with_reducible refine wF ?_ | with_reducible refine wg0 rfl ?_ | with_reducible refine wpF ?_ | with_reducible refine wsm ?_ | with_reducible refine wbd (by assumption) ?_ | (with_reducible refine wk0 rfl ?_) | with_reducible refine wadd1 (by omega) ?_ | with_reducible refine wlssT (by omega) ?_ | with_reducible refine wneqF (by omega) ?_ | dsimp only)
          exact next _ _ (Nat.lt_succ_self u) ⟨k + 1, ys, q, h3, rfl, by omega, by omega, hL, oq, om, l3, k3⟩
        · obtain ⟨a, ea, la⟩ := om.int.at' hAl
          rw [hgA] at la
          obtain ⟨b, hbt⟩ : ∃ b, b = MA >>> k % 2 := ⟨_, rfl⟩
          rw [decide_eq_false hkA, Bool.not_false, Bool.true_and, ← hbt] at hbr
          by_cases hb0 : b = 0
          · rw [decide_eq_true hb0, Bool.true_and] at hbr
            obtain ⟨h4, e4, k4⟩ := l6Size_calls g lf hand n (by omega) hlf h3
            have oq4 := oq.keep k4
            have om4 := om.keep (k4.mono l3)
            have K4 : Keep h.length h h4 := k3.trans (k4.mono (by omega))
            have l4 := k4.1
            obtain ⟨a', ea', la'⟩ := om4.int.at' hAl
            have haa : a' = a := by rw [ea] at ea'; exact (Option.some.inj ea').symm
            subst haa
            rw [hgA] at la'
            obtain ⟨a2, ea2, la2⟩ := om.int.at' hk
            rw [hgk] at la2
            repeat (first | with_reducible refine wT ?_ | with_reducible refine wg1 rfl ?_ | with_reducible refine wpT ?_ | with_reducible refine wpv ?_ | with_reducible refine wsm ?_ | with_reducible refine wck plain_int ?_ | with_reducible refine wbd (by assumption) ?_ | (with_reducible refine wk1 rfl ?_) | (rw [← hbt]) | with_reducible refine wrem2 ?_ | with_reducible refine wshr (by omega) ?_ | with_reducible refine wand (by omega) (by omega) ?_ | with_reducible refine wlssT (by omega) ?_ | with_reducible refine weqlT (by omega) ?_ | with_reducible refine wneqT (by omega) ?_ | dsimp only)
            by_cases hsz : sizeN (MA &&& MK) = 2
            · rw [hbr, decide_eq_true hsz, if_pos rfl] at hL
              repeat (first | with_reducible refine wT ?_ | with_reducible refine wpT ?_ | with_reducible refine weqlT (by omega) ?_)
              refine wapA oq4 om4 (by omega) (by omega) (by omega) fun p' h8 a8 o8 k8 => ?_
              have l8 := k8.1
              repeat (first | with_reducible refine wadd1 (by omega) ?_ | dsimp only)
              exact next _ _ (Nat.lt_succ_self u) ⟨k + 1, ys ++ [(k : Int)], p', h8, rfl, by omega, by simp; omega, by rw [List.append_assoc]; exact hL, a8, o8, by omega, K4.trans k8⟩
            · rw [hbr, decide_eq_false hsz, if_neg (by decide)] at hL
              repeat (first | with_reducible refine wF ?_ | with_reducible refine wpT ?_ | with_reducible refine wadd1 (by omega) ?_ | with_reducible refine weqlF (by omega) ?_)
              exact next _ _ (Nat.lt_succ_self u) ⟨k + 1, ys, q, h4, rfl, by omega, by omega, hL, oq4, om4, by omega, K4⟩
          · rw [hbr, decide_eq_false hb0, Bool.false_and, if_neg (by decide)] at hL
            repeat (first | with_reducible refine wT ?_ | with_reducible refine wF ?_ | with_reducible refine wg1 rfl ?_ | with_reducible refine wg0 rfl ?_ | with_reducible refine wpT ?_ | with_reducible refine wpF ?_ | with_reducible refine wpv ?_ | with_reducible refine wsm ?_ | with_reducible refine wbd (by assumption) ?_ | (with_reducible refine wk0 rfl ?_) | (rw [← hbt]) | with_reducible refine wadd1 (by omega) ?_ | with_reducible refine wrem2 ?_ | with_reducible refine wshr (by omega) ?_ | with_reducible refine wlssT (by omega) ?_ | with_reducible refine weqlF (by omega) ?_ | with_reducible refine wneqT (by omega) ?_ | dsimp only)
            exact next _ _ (Nat.lt_succ_self u) ⟨k + 1, ys, q, h3, rfl, by omega, by omega, hL, oq, om, l3, k3⟩

/-! ### cells that must be taken -/
theorem must_le {ok : Nat → Bool} {l : List Nat} {all : Nat} : ∀ {n : Nat}, mustF ok l n all ≤ all
  | 0 => Nat.le_refl _
  | n + 1 => by
    rw [mustF]
    cases ok (fillN l n) with
    | true => exact Nat.le_trans Nat.and_le_left must_le
    | false => exact must_le

theorem specMustCells_calls {xs : List Int} {p : PV} {h : PHeap} (N : Nat) (hN : 18 ≤ N) (r c pl : Int) (hp : IntSl .i64 h p xs) (hl : xs.length ≤ 2 ^ 35) (hf : xs.length < lf) (hlf : 1000 < lf) :
    ∃ q h', CL g lf N fn_spec_MustCells [.int .i64 r, .int .i64 c, p, .int .i64 pl] h = some (q, h') ∧ OwnSl h.length h' q (mustL r c xs pl) ∧ Keep h.length h h' := by
  obtain ⟨n, rfl⟩ : ∃ n, N = n + 1 := ⟨N - 1, by omega⟩
  have hok := l6Ok_calls g lf n (by omega) r c pl 0 hp hl hf
  rw [okL_zero] at hok
  suffices this : W (CL g lf (n + 1) fn_spec_MustCells [.int .i64 r, .int .i64 c, p, .int .i64 pl] h) fun q h' => OwnSl h.length h' q (mustL r c xs pl) ∧ Keep h.length h h' by
    obtain ⟨q, h', e, o, k⟩ := this
    exact ⟨q, h', e, o, k⟩
  unfold mustL
  rw [spec_MustCells.call_eq]
  unfold spec_MustCells.main
  simp only [env_C, env_lf, env_pick, env_buildSlice, env_bin, env_un]
  cases ho : (posB r c xs && playerB pl) with
  | false =>
    rw [ho] at hok
    repeat (first | with_reducible refine wT ?_ | with_reducible refine wg0 rfl ?_ | with_reducible refine wpT ?_ | with_reducible refine wnF ?_ | with_reducible refine wsm ?_ | with_reducible refine wbd (by assumption) ?_ | dsimp only)
    refine wempty fun q h1 o1 k1 => ?_
    repeat (first | with_reducible refine wresO (by assumption) ?_ | dsimp only)
    exact W.ret ⟨o1, k1⟩
  | true =>
    rw [ho] at hok
    have ho' := ho
    rw [Bool.and_eq_true] at ho
    obtain ⟨R, C, hS⟩ := sides_of ho.1
    obtain ⟨P, rfl, hP⟩ := player_of ho.2
    obtain ⟨rfl, rfl, _, _, _, _, h9, hlen, _⟩ := id hS
    have e1 := l2Set_calls g lf 0 hp (by omega) n (by omega) (by omega)
    have hs9 := set_lt9 hS 0
    have hcl : sizeN (setL xs 0) = xs.count 0 := cells_len hS
    obtain ⟨h1, e2, k1⟩ := l6Size_calls g lf hs9 n (by omega) hlf h
    rw [hcl] at e2
    by_cases h6 : xs.count 0 ≤ 6
    · rw [decide_eq_true h6, Bool.and_true, if_pos rfl]
      have hp1 := hp.keep k1
      have e3 := l2Set_calls g lf 0 hp1 (by omega) n (by omega) (by omega)
      obtain ⟨pf, h2, e4, o2, k2⟩ := l2List_calls g lf hs9 n (by omega) (by omega) (h := h1)
      rw [listN_cells] at o2
      have K2 := k1.trans (k2.mono k1.1)
      unfold mustN
      obtain ⟨L, hL⟩ : ∃ L, L = cellsN (setL xs 0) := ⟨_, rfl⟩
      rw [← hL] at o2 ⊢
      have hL9 : L.length ≤ 9 := by rw [hL]; exact cells_len9 _
      have hLl : ∀ j ∈ L, j < 9 := fun j hj => by rw [hL] at hj; exact cellsN_lt hj
      have hpow : 2 ^ L.length ≤ 512 := Nat.pow_le_pow_right (n := 2) (by decide) hL9
      have h1s : 1 <<< L.length = 2 ^ L.length := Nat.one_shiftLeft _
      obtain ⟨ok, hokd⟩ : ∃ ok : Nat → Bool, ok = fun S : Nat => threatL (R : Int) (C : Int) xs (3 - (P : Int)) (S : Int) := ⟨_, rfl⟩
      rw [← hokd]
      obtain ⟨F, hF⟩ : ∃ F, F = setL xs 0 := ⟨_, rfl⟩
      rw [← hF] at hs9 e1 e2 e3 e4 ⊢
      have eo := fun hh => other_W g lf n (by omega) hh hP
      have hcast : ((3 - P : Nat) : Int) = 3 - (P : Int) := by omega
      repeat (first | with_reducible refine wF ?_ | with_reducible refine wg1 rfl ?_ | with_reducible refine wpF ?_ | with_reducible refine wnT ?_ | with_reducible refine wpv ?_ | with_reducible refine wsm ?_ | with_reducible refine wbd (by assumption) ?_ | with_reducible refine wgtrF (by omega) ?_ | dsimp only)
      refine loopW (fun u s => ∃ (number : Nat) (h3 : PHeap), s = spec_MustCells.st0 (.int .i64 (R : Int)) (.int .i64 (C : Int)) p (.int .i64 (P : Int)) (.int .i64 ((mustF ok L number F : Nat) : Int)) pf (.int .i64 (number : Int)) h3 ∧ number + u = 2 ^ L.length ∧ Keep h.length h h3 ∧ OwnSl h1.length h3 pf (L.map fun k : Nat => (k : Int))) ?_ lf (2 ^ L.length) _ (by omega) ⟨0, h2, rfl, by omega, K2, o2⟩
      rintro n1 u s ⟨number, h3, rfl, hnu, k3, o3⟩ next
      have hlenL3 := o3.int.len'
      rw [List.length_map] at hlenL3
      have hmle : mustF ok L number F ≤ F := must_le
      have hm9 : mustF ok L number F < 2 ^ 9 := by omega
      rw [spec_MustCells.body0_eq]
      unfold spec_MustCells.body0
      simp only [env_C, env_bin, env_len]
      cases u with
      | zero =>
        have hn2 : number = 2 ^ L.length := by omega
        obtain ⟨q, h4, e5, o4, k4⟩ := l2List_calls g lf hm9 n (by omega) (by omega) (h := h3)
        have K4 := k3.trans (k4.mono k3.1)
        repeat (first | with_reducible refine wF ?_ | with_reducible refine wbd (by assumption) ?_ | with_reducible refine wshl (by omega) ?_ | with_reducible refine wlssF (by omega) ?_ | with_reducible refine wresO (by assumption) ?_ | rw [kLoop_exit] | rw [spec_MustCells.after0_se0_0_1_2_3_9_10_11_34] | dsimp only | simp only [env_C, env_g, env_lf, env_pick, env_alloc, env_box, env_build, env_buildSlice, env_load, env_store, env_ptr, env_bin, env_un, env_conv, env_make, env_slice, env_fieldAddr, env_field, env_indexAddr, env_index, env_extract, env_len, env_append, env_max, env_min, env_makeMap, env_lookup, env_update])
        exact W.ret ⟨by rw [← hn2]; exact o4.mono k3.1, K4⟩
      | succ u =>
        have e5 := fill_W g lf hLl hL9 o3.int (show number < 2 ^ 62 by omega) hlf n (by omega)
        have hfl := fillN_lt (m := number) hLl
        obtain ⟨h5, e6, k5⟩ := specThreatOk_calls g lf n (by omega) (R : Int) (C : Int) (3 - (P : Int)) ((fillN L number : Nat) : Int) (hp.keep k3) hl hf hlf
        have hokS : threatL (R : Int) (C : Int) xs (3 - (P : Int)) ((fillN L number : Nat) : Int) = ok (fillN L number) := by rw [hokd]
        rw [hokS, ← hcast] at e6
        have K5 := k3.trans (k5.mono k3.1)
        have hstep : mustF ok L (number + 1) F = bif ok (fillN L number) then mustF ok L number F &&& fillN L number else mustF ok L number F := rfl
        cases ho2 : ok (fillN L number) with
        | true =>
          rw [ho2] at e6 hstep
          rw [cond_true] at hstep
          repeat (first | with_reducible refine wT ?_ | with_reducible refine wbd (by assumption) ?_ | (with_reducible refine wbd (eo _) ?_) | with_reducible refine wadd1 (by omega) ?_ | with_reducible refine wshl (by omega) ?_ | with_reducible refine wand (by omega) (by omega) ?_ | with_reducible refine wlssT (by omega) ?_ | dsimp only)
          exact next _ _ (Nat.lt_succ_self u) ⟨number + 1, h5, by rw [hstep], by omega, K5, o3.keep k5⟩
        | false =>
          rw [ho2] at e6 hstep
          rw [cond_false] at hstep
          repeat (first | with_reducible refine wT ?_ | with_reducible refine wF ?_ | with_reducible refine wbd (by assumption) ?_ | (with_reducible refine wbd (eo _) ?_) | with_reducible refine wadd1 (by omega) ?_ | with_reducible refine wshl (by omega) ?_ | with_reducible refine wlssT (by omega) ?_ | dsimp only)
          exact next _ _ (Nat.lt_succ_self u) ⟨number + 1, h5, by rw [hstep], by omega, K5, o3.keep k5⟩
    · rw [decide_eq_false h6, Bool.and_false, if_neg (by decide)]
      repeat (first | with_reducible refine wT ?_ | with_reducible refine wg1 rfl ?_ | with_reducible refine wpF ?_ | with_reducible refine wnT ?_ | with_reducible refine wpv ?_ | with_reducible refine wsm ?_ | with_reducible refine wbd (by assumption) ?_ | with_reducible refine wgtrT (by omega) ?_ | dsimp only)
      refine wempty fun q h2 o2 k2 => ?_
      repeat (first | with_reducible refine wresO (by assumption) ?_ | dsimp only)
      exact W.ret ⟨o2.mono k1.1, k1.trans (k2.mono k1.1)⟩

end Go.Proofs.YtmhflbomploidaaDoor

/- The laws of chapter 6 over what the program's functions are asked to compute. -/
set_option maxRecDepth 20000
namespace Go.Proofs.YtmhflbomploidaaDoor
open Go Go.Ip G

/-- What is asked of the program's functions of chapter 6. -/
def CarrierOkOk (g : Nat → PV) (lf : Nat) : Prop := ∀ (N : Nat), 40 ≤ N → ∀ (r c pl S : Int) {xs : List Int} {p : PV} {h : PHeap}, TabOk g h → IntSl .i64 h p xs → xs.length ≤ 2 ^ 35 → xs.length < lf →
  ∃ h', CL g lf N fn_impl_CarrierOk [.int .i64 r, .int .i64 c, p, .int .i64 pl, .int .i64 S] h = some (.bool (carrierL r c xs pl S), h') ∧ Keep h.length h h'
def ThreatOkOk (g : Nat → PV) (lf : Nat) : Prop := ∀ (N : Nat), 40 ≤ N → ∀ (r c pl S : Int) {xs : List Int} {p : PV} {h : PHeap}, TabOk g h → IntSl .i64 h p xs → xs.length ≤ 2 ^ 35 → xs.length < lf →
  ∃ h', CL g lf N fn_impl_ThreatOk [.int .i64 r, .int .i64 c, p, .int .i64 pl, .int .i64 S] h = some (.bool (threatL r c xs pl S), h') ∧ Keep h.length h h'
def BridgesOk (g : Nat → PV) (lf : Nat) : Prop := ∀ (N : Nat), 40 ≤ N → ∀ (r c k : Int) {h : PHeap}, TabOk g h →
  ∃ q h', CL g lf N fn_impl_BridgesOf [.int .i64 r, .int .i64 c, .int .i64 k] h = some (q, h') ∧ OwnSl h.length h' q (bridgesL r c k) ∧ Keep h.length h h'
def MustOk (g : Nat → PV) (lf : Nat) : Prop := ∀ (N : Nat), 40 ≤ N → ∀ (r c pl : Int) {xs : List Int} {p : PV} {h : PHeap}, TabOk g h → IntSl .i64 h p xs → xs.length ≤ 2 ^ 35 → xs.length < lf →
  ∃ q h', CL g lf N fn_impl_MustCells [.int .i64 r, .int .i64 c, p, .int .i64 pl] h = some (q, h') ∧ OwnSl h.length h' q (mustL r c xs pl) ∧ Keep h.length h h'

theorem carrierL_none {r c : Int} {xs : List Int} {pl S : Int} (h : posB r c xs = false ∨ 2 < pl) : carrierL r c xs pl S = false := by
  unfold carrierL okL
  rcases h with h | h
  · rw [h]; rfl
  · rw [show playerB pl = false by unfold playerB; exact decide_eq_false (by omega), Bool.and_false]; rfl
theorem threatL_none {r c : Int} {xs : List Int} {pl S : Int} (h : posB r c xs = false ∨ 2 < pl) : threatL r c xs pl S = false := by
  unfold threatL okL
  rcases h with h | h
  · rw [h]; rfl
  · rw [show playerB pl = false by unfold playerB; exact decide_eq_false (by omega), Bool.and_false]; rfl
theorem carrierL_big {r c : Int} {xs : List Int} {pl : Int} {S : Nat} (h : ¬ S < 2 ^ xs.length) : carrierL r c xs pl (S : Int) = false := by
  unfold carrierL okL
  rw [decide_eq_false (by omega : ¬ ((0 : Int) ≤ (S : Int) ∧ (S : Int) < ((2 ^ xs.length : Nat) : Int))), Bool.and_false]; rfl
theorem threatL_big {r c : Int} {xs : List Int} {pl : Int} {S : Nat} (h : ¬ S < 2 ^ xs.length) : threatL r c xs pl (S : Int) = false := by
  unfold threatL okL
  rw [decide_eq_false (by omega : ¬ ((0 : Int) ≤ (S : Int) ∧ (S : Int) < ((2 ^ xs.length : Nat) : Int))), Bool.and_false]; rfl
theorem mustL_length (r c : Int) (xs : List Int) (pl : Int) : (mustL r c xs pl).length ≤ 9 := by
  unfold mustL; split
  · exact listN_length _
  · exact Nat.zero_le _
theorem bridgesL_length (r c k : Int) : (bridgesL r c k).length ≤ 9 := by
  unfold bridgesL
  split
  · rename_i h
    obtain ⟨R, C, K, rfl, rfl, rfl, _, _, _, _, h9, _⟩ := cell_of h
    exact bridges_length h9
  · exact Nat.zero_le _

variable (g : Nat → PV) (lf n : Nat)

/-! ### the exact laws -/
theorem fnCarrierOk_calls (hCa : CarrierOkOk g lf) (hTh : ThreatOkOk g lf) (hWi : WinnerOk g lf) {p : PV} {ys : List Int} {h : PHeap} (N : Nat) (hN : 45 ≤ N) (ha : Arg h p ys) (hlf : 1000 < lf) (ht : TabOk g h) :
    ∃ h', CL g lf N fn_laws_FnCarrierOk [p] h = some (.bool true, h') := by
  obtain ⟨n, rfl⟩ : ∃ n, N = n + 1 := ⟨N - 1, by omega⟩
  apply W.yes
  rw [laws_FnCarrierOk.call_eq]
  unfold laws_FnCarrierOk.main
  simp only [env_C, env_pick, env_bin, env_un, env_extract, env_len]
  have hlenp : lenP Tryd.prog 22 p = some (.int .i64 ys.length) := (ha.1 h (Keep.refl _ _)).len tyB
  by_cases hbig : (1048576 : Int) < (ys.length : Int)
  · repeat (first | with_reducible refine wT ?_ | with_reducible refine wrB ?_ | with_reducible refine wbd (by assumption) ?_ | with_reducible refine wgtrT (by omega) ?_)
    exact W.ret rfl
  obtain ⟨r, c, q, xs, pl, S, h1, e1, k1, hq0, hl, hp1, hp2, hS4⟩ := drawCarrierOk_W g lf n (by omega) ha (by omega)
  have htF := tabF ht k1
  have hb1 : h1.length ≤ h1.length := Nat.le_refl _
  have k0 : Keep h1.length h1 h1 := Keep.refl _ _
  have hal : ∀ h2, CL g lf n fn_laws_alive [] h2 = some (.bool true, h2) := fun h2 => alive_calls g lf n (by omega) h2
  have hq : Fix h1.length h1 q xs := hq0.fix
  have hpos : ∀ h2, Keep h1.length h1 h2 → CL g lf n fn_spec_PositionOk [.int .i64 r, .int .i64 c, q] h2 = some (.bool (posB r c xs), h2) := fun h2 k2 => specPositionOk_N g lf n (by omega) r c (hq h2 k2) (by omega) (by omega)
  have hI : ∀ h2, Keep h1.length h1 h2 → ∃ h', CL g lf n fn_impl_CarrierOk [.int .i64 r, .int .i64 c, q, .int .i64 pl, .int .i64 (S : Int)] h2 = some (.bool (carrierL r c xs pl (S : Int)), h') ∧ Keep h2.length h2 h' := fun h2 k2 => hCa n (by omega) r c pl (S : Int) (htF _ k2) (hq _ k2) (by omega) (by omega)
  have hT : ∀ h2, Keep h1.length h1 h2 → ∃ h', CL g lf n fn_impl_ThreatOk [.int .i64 r, .int .i64 c, q, .int .i64 pl, .int .i64 (S : Int)] h2 = some (.bool (threatL r c xs pl (S : Int)), h') ∧ Keep h2.length h2 h' := fun h2 k2 => hTh n (by omega) r c pl (S : Int) (htF _ k2) (hq _ k2) (by omega) (by omega)
  have hSp : ∀ h2, Keep h1.length h1 h2 → ∃ h', CL g lf n fn_spec_CarrierOk [.int .i64 r, .int .i64 c, q, .int .i64 pl, .int .i64 (S : Int)] h2 = some (.bool (carrierL r c xs pl (S : Int)), h') ∧ Keep h2.length h2 h' := fun h2 k2 => specCarrierOk_calls g lf n (by omega) r c pl (S : Int) (hq _ k2) (by omega) (by omega) hlf
  have hlq : ∀ h2, Keep h1.length h1 h2 → lenP Tryd.prog 23 q = some (.int .i64 xs.length) := fun h2 k2 => (hq _ k2).len'
  by_cases hinv : posB r c xs = false ∨ 2 < pl
  · rw [carrierL_none hinv] at hI
    rw [carrierL_none hinv] at hSp
    cases hb : posB r c xs with
    | false =>
      rw [hb] at hpos
      repeat (first | with_reducible refine wT ?_ | with_reducible refine wF ?_ | with_reducible refine wg1 rfl ?_ | with_reducible refine wg0 rfl ?_ | with_reducible refine wpT ?_ | with_reducible refine wnF ?_ | with_reducible refine wsm ?_ | with_reducible refine wrB ?_ | with_reducible refine wx0 ?_ | with_reducible refine wx1 ?_ | with_reducible refine wx2 ?_ | with_reducible refine wx3 ?_ | with_reducible refine wx4 ?_ | with_reducible refine wbd (by assumption) ?_ | (with_reducible refine wneqBB ?_) | (with_reducible refine wbd (hpos _ (by assumption)) ?_) | (with_reducible refine wbd (hal _) ?_) | (with_reducible refine wcv (hI _ (by assumption)) (by assumption) hb1 fun _ _ => ?_) | (with_reducible refine wcv (hSp _ (by assumption)) (by assumption) hb1 fun _ _ => ?_) | with_reducible refine wgtrF (by omega) ?_ | dsimp only)
      exact W.ret rfl
    | true =>
      rw [hb] at hpos
      have hpl : 2 < pl := by
        rcases hinv with h | h
        · rw [hb] at h; cases h
        · exact h
      repeat (first | with_reducible refine wT ?_ | with_reducible refine wF ?_ | with_reducible refine wg1 rfl ?_ | with_reducible refine wpT ?_ | with_reducible refine wpF ?_ | with_reducible refine wnT ?_ | with_reducible refine wnF ?_ | with_reducible refine wpv ?_ | with_reducible refine wsm ?_ | with_reducible refine wrB ?_ | with_reducible refine wx0 ?_ | with_reducible refine wx1 ?_ | with_reducible refine wx2 ?_ | with_reducible refine wx3 ?_ | with_reducible refine wx4 ?_ | with_reducible refine wbd (by assumption) ?_ | (with_reducible refine wneqBB ?_) | (with_reducible refine wbd (hpos _ (by assumption)) ?_) | (with_reducible refine wbd (hal _) ?_) | (with_reducible refine wcv (hI _ (by assumption)) (by assumption) hb1 fun _ _ => ?_) | (with_reducible refine wcv (hSp _ (by assumption)) (by assumption) hb1 fun _ _ => ?_) | with_reducible refine wgtrT (by omega) ?_ | with_reducible refine wgtrF (by omega) ?_ | dsimp only)
      exact W.ret rfl
  have hb : posB r c xs = true := by
    cases e : posB r c xs with
    | true => rfl
    | false => exact (hinv (.inl e)).elim
  rw [hb] at hpos
  obtain ⟨R, C, hS⟩ := sides_of hb
  obtain ⟨P, rfl⟩ := Int.eq_ofNat_of_zero_le (show 0 ≤ pl by omega)
  have hP : P = 1 ∨ P = 2 := by
    have : ¬ 2 < (P : Int) := fun hh => hinv (.inr hh)
    omega
  have hO : 3 - P = 1 ∨ 3 - P = 2 := by omega
  have hcast : ((3 - P : Nat) : Int) = 3 - (P : Int) := by omega
  obtain ⟨rfl, rfl, s1, s2, s3, s4, s9, slen, sall⟩ := id hS
  have hpl2 : ¬ 2 < (P : Int) := fun hh => hinv (.inr hh)
  have hpow : 2 ^ xs.length ≤ 512 := Nat.pow_le_pow_right (n := 2) (by decide) (by omega : xs.length ≤ 9)
  have hpow1 : 1 ≤ 2 ^ xs.length := Nat.one_le_two_pow
  have h1s : 1 <<< xs.length = 2 ^ xs.length := Nat.one_shiftLeft _
  obtain ⟨M, hM⟩ : ∃ M, M = 2 ^ xs.length := ⟨_, rfl⟩
  rw [← hM] at hpow hpow1 h1s
  have hall := carrier_all hb hP
  have hA : ∀ h2, Keep h1.length h1 h2 → ∃ h', CL g lf n fn_impl_CarrierOk [.int .i64 (R : Int), .int .i64 (C : Int), q, .int .i64 (P : Int), .int .i64 ((1 <<< xs.length - 1 : Nat) : Int)] h2 = some (.bool (carrierL (R : Int) (C : Int) xs (P : Int) ((1 <<< xs.length - 1 : Nat) : Int)), h') ∧ Keep h2.length h2 h' := fun h2 k2 => hCa n (by omega) (R : Int) (C : Int) (P : Int) _ (htF _ k2) (hq _ k2) (by omega) (by omega)
  have hWW : ∀ h2, Keep h1.length h1 h2 → ∃ h', CL g lf n fn_impl_WinnerOf [.int .i64 (R : Int), .int .i64 (C : Int), q, .int .i64 (3 - (P : Int))] h2 = some (.int .i64 (winL (R : Int) (C : Int) xs (3 - (P : Int))), h') ∧ Keep h2.length h2 h' := fun h2 k2 => hWi n (by omega) (R : Int) (C : Int) _ (htF _ k2) (hq _ k2) (by omega) (by omega)
  have hkey : carrierL (R : Int) (C : Int) xs (P : Int) ((1 <<< xs.length - 1 : Nat) : Int) = decide (winL (R : Int) (C : Int) xs (3 - (P : Int)) = (P : Int)) := by
    rw [Nat.one_shiftLeft, ← hcast]
    rw [Bool.eq_iff_iff, hall, decide_eq_true_iff]
  cases ho : carrierL (R : Int) (C : Int) xs (P : Int) (S : Int) with
  | false =>
    rw [ho] at hI hSp
    rw [hkey] at hA
    repeat (first | with_reducible refine wF ?_ | with_reducible refine wg1 rfl ?_ | with_reducible refine wg0 rfl ?_ | with_reducible refine wgu ?_ | with_reducible refine wpT ?_ | with_reducible refine wpF ?_ | with_reducible refine wnT ?_ | with_reducible refine wnF ?_ | with_reducible refine wpv ?_ | with_reducible refine wsm ?_ | with_reducible refine wrB ?_ | with_reducible refine wx0 ?_ | with_reducible refine wx1 ?_ | with_reducible refine wx2 ?_ | with_reducible refine wx3 ?_ | with_reducible refine wx4 ?_ | with_reducible refine wbd (by assumption) ?_ | with_reducible refine wlen (by assumption) ?_ | (with_reducible refine wneqBB ?_) | (with_reducible refine weqlBB ?_) | (with_reducible refine wbd (hpos _ (by assumption)) ?_) | (with_reducible refine wbd (hal _) ?_) | (with_reducible refine wcv (hI _ (by assumption)) (by assumption) hb1 fun _ _ => ?_) | (with_reducible refine wcv (hSp _ (by assumption)) (by assumption) hb1 fun _ _ => ?_) | (with_reducible refine wcv (hA _ (by assumption)) (by assumption) hb1 fun _ _ => ?_) | (with_reducible refine wcv (hWW _ (by assumption)) (by assumption) hb1 fun _ _ => ?_) | (with_reducible refine weqD ?_) | with_reducible refine wsub1 (by omega) (by omega) ?_ | with_reducible refine wshl (by omega) ?_ | with_reducible refine wgtrF (by omega) ?_ | with_reducible refine wsub (by omega) ?_ | dsimp only)
    exact W.ret rfl
  | true =>
    have hSl : S < 2 ^ xs.length := by
      apply Classical.byContradiction
      intro hh
      rw [carrierL_big hh] at ho; cases ho
    have hth := carrier_threat hb hP hSl ho
    have hmo := carrier_more hb hP hSl (by omega : 2 ^ xs.length - 1 < 2 ^ xs.length) (fun j hj _ => all_bits hb hP hj) ho
    rw [← Nat.one_shiftLeft, hkey] at hmo
    rw [hmo] at hkey
    rw [hth] at hT
    rw [ho] at hI hSp
    rw [hkey] at hA
    have hwe := of_decide_eq_true hmo
    rw [hwe] at hWW
    repeat (first | with_reducible refine wF ?_ | with_reducible refine wg1 rfl ?_ | with_reducible refine wpT ?_ | with_reducible refine wpF ?_ | with_reducible refine wnT ?_ | with_reducible refine wpv ?_ | with_reducible refine wsm ?_ | with_reducible refine wrB ?_ | with_reducible refine wx0 ?_ | with_reducible refine wx1 ?_ | with_reducible refine wx2 ?_ | with_reducible refine wx3 ?_ | with_reducible refine wx4 ?_ | with_reducible refine wbd (by assumption) ?_ | with_reducible refine wlen (by assumption) ?_ | (with_reducible refine wneqBB ?_) | (with_reducible refine weqlBB ?_) | (with_reducible refine wbd (hpos _ (by assumption)) ?_) | (with_reducible refine wbd (hal _) ?_) | (with_reducible refine wcv (hI _ (by assumption)) (by assumption) hb1 fun _ _ => ?_) | (with_reducible refine wcv (hSp _ (by assumption)) (by assumption) hb1 fun _ _ => ?_) | (with_reducible refine wcv (hA _ (by assumption)) (by assumption) hb1 fun _ _ => ?_) | (with_reducible refine wcv (hWW _ (by assumption)) (by assumption) hb1 fun _ _ => ?_) | (with_reducible refine wcv (hT _ (by assumption)) (by assumption) hb1 fun _ _ => ?_) | with_reducible refine wsub1 (by omega) (by omega) ?_ | with_reducible refine wshl (by omega) ?_ | with_reducible refine wgtrF (by omega) ?_ | with_reducible refine weqlT (by omega) ?_ | with_reducible refine wsub (by omega) ?_ | dsimp only)
    exact W.ret rfl

end Go.Proofs.YtmhflbomploidaaDoor

